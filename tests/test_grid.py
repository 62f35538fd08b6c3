"""rungfields.grid: promises [2] and [10]."""

import inspect
import itertools
import random
import unittest

import naive
from rungfields import grid
from rungfields.errors import BadPrime, BadTable, BadWidth
from rungfields.grid import kernel, solved, stepped

FORTY = 10**39 + 12345
NO_PRIMES = (0, 1, 4, 9, 99, 101, -2, FORTY, -FORTY, True)
NO_WIDTHS = (0, -1, 25, 26, FORTY, -FORTY, True, False)


def small_tables():
    """Each table of few rows by small primes: prime, width, rows."""
    for prime, width, most in ((2, 1, 3), (2, 2, 3), (2, 3, 3), (3, 1, 2), (3, 2, 2), (3, 3, 1), (5, 2, 2)):
        all_rows = list(itertools.product(range(prime), repeat=width))
        for count in range(most + 1):
            for rows in itertools.product(all_rows, repeat=count):
                yield prime, width, list(rows)


def great_tables():
    """Some tables to 24 rows, 24 wide, among them some of few unlike sums."""
    chance = random.Random("tables")
    for prime in (2, 3, 7, 31, 97):
        for width, count, rank in (
            (24, 24, 24), (24, 24, 9), (24, 5, 5), (5, 24, 24), (1, 24, 1), (24, 1, 1), (13, 12, 4),
        ):
            base = [tuple(chance.randrange(prime) for _ in range(width)) for _ in range(rank)]
            if count == rank:
                rows = base
            else:
                rows = [
                    naive.made([chance.randrange(prime) for _ in base], base, width, prime)
                    for _ in range(count)
                ]
            yield prime, width, rows


def head(row):
    return next(place for place, rest in enumerate(row) if rest != 0)


class Case(unittest.TestCase):
    def check_form(self, told, width, prime):
        """That some rows are a told form."""
        self.assertIs(type(told), list)
        heads = []
        for row in told:
            self.assertIs(type(row), tuple)
            self.assertEqual(len(row), width)
            self.assertTrue(all(type(rest) is int and 0 <= rest < prime for rest in row))
            self.assertTrue(any(row))
            heads.append(head(row))
        self.assertEqual(heads, sorted(set(heads)))
        for place in heads:
            self.assertEqual(sorted(row[place] for row in told), [0] * (len(told) - 1) + [1])

    def check_within(self, row, told, prime):
        """That a row is a sum of the rows of a told form."""
        weights = [row[head(own)] for own in told]
        self.assertEqual(naive.made(weights, told, len(row), prime), row)


class Stepped(Case):
    def test_same_sums_of_small_tables(self):
        for prime, width, rows in small_tables():
            told = stepped(rows, width, prime=prime)
            self.check_form(told, width, prime)
            self.assertEqual(naive.span(told, width, prime), naive.span(rows, width, prime))

    def test_there_is_just_one(self):
        for prime, width in ((2, 3), (3, 2)):
            forms = {}
            for by, wide, rows in small_tables():
                if (by, wide) == (prime, width):
                    sums = frozenset(naive.span(rows, width, prime))
                    told = stepped(rows, width, prime=prime)
                    self.assertEqual(forms.setdefault(sums, told), told)

    def test_great_tables(self):
        for prime, width, rows in great_tables():
            told = stepped(rows, width, prime=prime)
            self.check_form(told, width, prime)
            for row in rows:
                self.check_within(row, told, prime)
            for row in told:
                word, weights = solved(rows, row, width, prime=prime)
                self.assertEqual(word, "made")
                self.assertEqual(naive.made(weights, rows, width, prime), row)

    def test_rows_in_another_order_and_told_twice(self):
        chance = random.Random("order")
        for prime, width, rows in great_tables():
            told = stepped(rows, width, prime=prime)
            self.assertEqual(stepped(rows[::-1], width, prime=prime), told)
            if len(rows) <= 12:
                again = rows + rows
                chance.shuffle(again)
                self.assertEqual(stepped(again, width, prime=prime), told)
            self.assertEqual(stepped(told, width, prime=prime), told)

    def test_plain_ones(self):
        self.assertEqual(stepped([(0, 2, 4), (3, 3, 0)], 3, prime=5), [(1, 0, 3), (0, 1, 2)])
        self.assertEqual(stepped([(1, 1), (1, 1)], 2), [(1, 1)])
        self.assertEqual(stepped([(0, 0), (0, 0)], 2), [])
        self.assertEqual(stepped([], 7), [])
        self.assertEqual(stepped([(0,), (3,), (2,)], 1, prime=5), [(1,)])


class Kernel(Case):
    def test_small_tables(self):
        for prime, width, rows in small_tables():
            told = kernel(rows, width, prime=prime)
            self.check_form(told, width, prime)
            wanted = {
                other for other in itertools.product(range(prime), repeat=width)
                if all(naive.weigh(row, other, prime) == 0 for row in rows)
            }
            self.assertEqual(naive.span(told, width, prime), wanted)

    def test_great_tables(self):
        for prime, width, rows in great_tables():
            told = kernel(rows, width, prime=prime)
            self.check_form(told, width, prime)
            for own, row in itertools.product(told, rows):
                self.assertEqual(naive.weigh(own, row, prime), 0)
            self.assertEqual(len(told) + len(stepped(rows, width, prime=prime)), width)

    def test_its_kernel_is_the_told_form_again(self):
        for prime, width, rows in great_tables():
            told = kernel(rows, width, prime=prime)
            self.assertEqual(kernel(told, width, prime=prime), stepped(rows, width, prime=prime))

    def test_plain_ones(self):
        units = [tuple(int(at == place) for at in range(4)) for place in range(4)]
        self.assertEqual(kernel([], 4, prime=3), units)
        self.assertEqual(kernel([(0, 0, 0, 0)] * 2, 4, prime=3), units)
        self.assertEqual(kernel(units, 4, prime=3), [])
        self.assertEqual(kernel([(1, 2, 3)], 3, prime=5), [(1, 0, 3), (0, 1, 1)])
        self.assertEqual(kernel([(1,)], 1), [])
        self.assertEqual(kernel([(0,)], 1), [(1,)])


class Solved(Case):
    def check(self, rows, wanted, width, prime):
        told = solved(rows, wanted, width, prime=prime)
        self.assertIs(type(told), tuple)
        word, what = told
        self.assertTrue(all(type(rest) is int and 0 <= rest < prime for rest in what))
        if word == "made":
            self.assertIs(type(what), list)
            self.assertEqual(len(what), len(rows))
            self.assertEqual(naive.made(what, rows, width, prime), wanted)
        else:
            self.assertEqual(word, "barred")
            self.assertIs(type(what), tuple)
            self.assertEqual(len(what), width)
            self.assertEqual(naive.weigh(what, wanted, prime), 1)
            for row in rows:
                self.assertEqual(naive.weigh(what, row, prime), 0)
        return word

    def test_small_tables(self):
        for prime, width, rows in small_tables():
            sums = naive.span(rows, width, prime)
            for wanted in itertools.product(range(prime), repeat=width):
                word = self.check(rows, wanted, width, prime)
                self.assertEqual(word == "made", wanted in sums)

    def test_great_tables(self):
        chance = random.Random("solved")
        for prime, width, rows in great_tables():
            rank = len(stepped(rows, width, prime=prime))
            for _ in range(3):
                weights = [chance.randrange(prime) for _ in rows]
                wanted = naive.made(weights, rows, width, prime)
                self.assertEqual(self.check(rows, wanted, width, prime), "made")
                wanted = tuple(chance.randrange(prime) for _ in range(width))
                more = len(stepped(rows[:23] + [wanted], width, prime=prime))
                word = self.check(rows, wanted, width, prime)
                if len(rows) < 24:
                    self.assertEqual(word == "made", more == rank)

    def test_no_rows(self):
        self.assertEqual(solved([], (0, 0), 2, prime=3), ("made", []))
        self.assertEqual(self.check([], (0, 2), 2, 3), "barred")
        self.assertEqual(solved([], (0,) * 24, 24, prime=3), ("made", []))

    def test_rows_of_noughts(self):
        self.assertEqual(self.check([(0, 0)] * 3, (0, 0), 2, 3), "made")
        self.assertEqual(self.check([(0, 0)] * 3, (1, 0), 2, 3), "barred")

    def test_plain_ones(self):
        self.assertEqual(solved([(1, 1), (0, 1)], (1, 0), 2, prime=5), ("made", [1, 4]))
        self.assertEqual(solved([(1, 1)], (1, 0), 2, prime=5), ("barred", (1, 4)))
        self.assertEqual(solved([(2,)], (1,), 1, prime=5), ("made", [3]))


class Refused(unittest.TestCase):
    def refused(self, error, action, *told, **more):
        with self.assertRaises(error) as caught:
            action(*told, **more)
        return caught.exception

    def each(self, error, rows, width, prime):
        """What all three refuse rows with."""
        wanted = (0,) * 3
        told = [
            self.refused(error, stepped, rows, width, prime=prime),
            self.refused(error, kernel, rows, width, prime=prime),
            self.refused(error, solved, rows, wanted, width, prime=prime),
            self.refused(error, solved, rows, (9,), width, prime=prime),
        ]
        return told

    def test_bad_prime_ahead_of_all_else(self):
        for prime in NO_PRIMES:
            for width in (3, 0, 25):
                for rows in ([], [(0, 0, 0)], [(0, 0)]):
                    self.each(BadPrime, rows, width, prime)

    def test_bad_width_ahead_of_bad_table(self):
        for width in NO_WIDTHS:
            for rows in ([], [(0, 0, 0)], [(0, 0), (1,)], [(9, 9, 9)], [(0, 0, 0)] * 25):
                self.each(BadWidth, rows, width, 5)

    def test_the_first_row_that_is_none(self):
        good = (1, 2, 3)
        for wrong in (
            (), (1, 2), (1, 2, 3, 4), (1, 2, 5), (1, -1, 3), (True, 2, 3), (1, 2, False), (FORTY, 0, 0),
        ):
            for at in (0, 1, 5, 23):
                for rows in ([good] * at + [wrong], [good] * at + [wrong, (), (7,), good]):
                    for error in self.each(BadTable, rows, 3, 5):
                        self.assertEqual(error.at, at)
                        self.assertEqual(error.word, "BadTable")

    def test_the_25th_row(self):
        good = (1, 2, 3)
        for rows in ([good] * 25, [good] * 40, [good] * 24 + [()], [good] * 24 + [(9,), good]):
            for error in self.each(BadTable, rows, 3, 5):
                self.assertEqual(error.at, 24)
        for error in self.each(BadTable, [good] * 23 + [(1,), good, good], 3, 5):
            self.assertEqual(error.at, 23)
        self.assertEqual(stepped([good] * 24, 3, prime=5), [good])

    def test_wanted_behind_the_rows(self):
        for wanted in ((), (1, 2), (1, 2, 3, 4), (1, 2, 5), (-1, 2, 3), (True, 2, 3)):
            for rows in ([], [(1, 2, 3)], [(1, 2, 3)] * 24):
                self.assertEqual(self.refused(BadTable, solved, rows, wanted, 3, prime=5).at, 0)
            rows = [(1, 2, 3), (0, 0, 0), (5, 0, 0)]
            self.assertEqual(self.refused(BadTable, solved, rows, wanted, 3, prime=5).at, 2)


class Kept(unittest.TestCase):
    def test_what_is_handed_in_stays(self):
        for prime, width, rows in great_tables():
            before = list(rows)
            stepped(rows, width, prime=prime)
            kernel(rows, width, prime=prime)
            solved(rows, rows[0], width, prime=prime)
            self.assertEqual(rows, before)

    def test_told_lists_changed_by_the_caller(self):
        rows = [(1, 2, 0), (0, 1, 1), (1, 0, 3)]

        def weights(rows, width, *, prime):
            return solved(rows, (1, 2, 0), width, prime=prime)[1]

        for action in (stepped, kernel, weights):
            told = action(rows, 3, prime=5)
            before = list(told)
            told.append((0, 0, 0))
            told.reverse()
            self.assertEqual(rows, [(1, 2, 0), (0, 1, 1), (1, 0, 3)])
            self.assertEqual(action(rows, 3, prime=5), before)

    def test_the_told_form_of_a_told_form_is_another_list(self):
        rows = stepped([(1, 0), (0, 1)], 2)
        told = stepped(rows, 2)
        self.assertEqual(told, rows)
        self.assertIsNot(told, rows)


class Interface(unittest.TestCase):
    def test_names_of_what_is_handed_in(self):
        forms = {
            "stepped": "(rows, width, *, prime=2)",
            "kernel": "(rows, width, *, prime=2)",
            "solved": "(rows, wanted, width, *, prime=2)",
        }
        for name, form in forms.items():
            self.assertEqual(str(inspect.signature(getattr(grid, name))), form)
            self.assertEqual(getattr(grid, name).__module__, "rungfields.grid")

    def test_handed_in_by_name(self):
        self.assertEqual(stepped(width=2, rows=[(2, 1)], prime=3), [(1, 2)])
        self.assertEqual(kernel(width=2, prime=3, rows=[(1, 2)]), [(1, 1)])
        self.assertEqual(solved(wanted=(1,), rows=[(2,)], width=1, prime=3), ("made", [2]))

    def test_the_prime_by_its_name_alone(self):
        for action in (stepped, kernel):
            with self.assertRaises(TypeError):
                action([], 1, 3)
        with self.assertRaises(TypeError):
            solved([], (0,), 1, 3)

    def test_default_prime(self):
        self.assertEqual(stepped([(1, 1), (0, 1)], 2), [(1, 0), (0, 1)])
        with self.assertRaises(BadTable):
            stepped([(2,)], 1)


if __name__ == "__main__":
    unittest.main()
