"""rungfields.pages: promises [2] and [26]."""

import inspect
import random
import re
import unittest

from rungfields.errors import BadPage
from rungfields.pages import page, read_page
from rungfields.rests import PRIMES
from rungfields.works import Works

FULL = """prime 5
guest abc x
guest f 2 + x^2
guest g 3 + 3x + x^3
put a 2 1 4
put b 3 0 1 0
lay c 3
put z 1 0
lay d a
lay aa d + b
lay e b * (a + z)
lay s e^-2' - aa
"""


def some_works():
    works = Works(prime=5)
    works.put("z", 4, (0, 0, 0, 0))
    works.bring("g", (3, 3, 0, 1))
    works.put("b", 3, [0, 1, 0])
    works.put("a", 2, (1, 4))
    works.bring("f", (2, 0, 1))
    works.lay("d", "a")
    works.lay("e", " b*((a)+z)")
    works.lay("aa", "d+b")
    works.lay("s", "e ^ -2' - aa")
    works.bring("abc", (0, 1))
    works.lay("c", "3")
    return works


class Case(unittest.TestCase):
    def bad(self, text, row):
        with self.assertRaises(BadPage, msg=text) as caught:
            read_page(text)
        self.assertEqual(caught.exception.word, "BadPage")
        self.assertEqual(caught.exception.row, row, text)


class Page(Case):
    def test_rows(self):
        self.assertEqual(page(some_works()), FULL)

    def test_of_nothing(self):
        for prime in PRIMES:
            self.assertEqual(page(Works(prime=prime)), f"prime {prime}\n")
            self.assertEqual(read_page(f"prime {prime}\n"), Works(prime=prime))

    def test_plain_ones(self):
        works = Works(prime=5)
        works.bring("f", (2, 0, 1))
        works.put("b", 1, (3,))
        works.put("a", 2, (1, 4))
        works.lay("s", "a*b")
        self.assertEqual(page(works), "prime 5\nguest f 2 + x^2\nput a 2 1 4\nput b 1 3\nlay s a * b\n")

    def test_numbers_by_guests_and_raised_ones_at_home(self):
        works = Works(prime=7)
        works.bring("f", (1, 0, 1))
        works.put("a", "f", (3, 0))
        works.put("b", 12, works.tower().raised((3, (1, 2, 3)), 12)[1])
        self.assertEqual(page(works), "prime 7\nguest f 1 + x^2\nput a 1 3\nput b 3 1 2 3\n")
        works.leave("f")
        self.assertEqual(page(works), "prime 7\nput a 1 3\nput b 3 1 2 3\n")

    def test_those_that_lean_on_fewer_first(self):
        works = Works(prime=2)
        works.put("z", 1, (1,))
        works.lay("y", "z")
        works.lay("x", "y")
        works.lay("a", "x")
        works.lay("b", "z + z")
        works.lay("w", "1")
        self.assertEqual(
            page(works), "prime 2\nlay w 1\nput z 1 1\nlay b z + z\nlay y z\nlay x y\nlay a x\n"
        )

    def test_as_it_stands_behind_steps(self):
        works = some_works()
        works.drop("s")
        works.change("aa", "d - b")
        works.leave("abc")
        works.undo()
        works.redo()
        text = FULL.replace("guest abc x\n", "").replace("lay s e^-2' - aa\n", "").replace("aa d + b", "aa d - b")
        self.assertEqual(page(works), text)


class Read(Case):
    def test_there_and_back(self):
        works = read_page(FULL)
        self.assertEqual(works, some_works())
        self.assertEqual(works.worths(), some_works().worths())
        self.assertEqual(page(works), FULL)
        self.assertIsInstance(works, Works)

    def test_without_steps(self):
        works = read_page(FULL)
        self.assertEqual((works.depth(), works.deeds()), ((0, 0), []))
        works.drop("s")
        self.assertEqual(works.depth(), (1, 0))
        works.undo()
        self.assertEqual(page(works), FULL)

    def test_behind_many_deeds(self):
        chance = random.Random(26)
        for prime in (2, 3, 13, 97):
            works = Works(prime=prime)
            for _ in range(60):
                self.some_deed(works, chance)
                text = page(works)
                told = read_page(text)
                self.assertEqual(told, works)
                self.assertEqual(told.worths(), works.worths())
                self.assertEqual(page(told), text)
                self.assertLess(len(text), 4000)

    def some_deed(self, works, chance):
        """Some deed, which may be refused."""
        prime, names = works.prime(), works.names()
        name = chance.choice("abcdefghijklm") * chance.randint(1, 2)
        degree = chance.choice((1, 2, 2, 3, 4, 6))
        rests = [chance.randrange(prime) for _ in range(degree)]
        one, other = (chance.choice(names), chance.choice(names)) if names else ("a", "a")
        text = chance.choice((f"{one} + {other}", f"({one} - 2)*{other}^3", f"{one}' / ({other} + 1)", "7", f"{one}^-1"))
        action = chance.choice(("put", "put", "lay", "lay", "fix", "change", "drop", "bring", "leave", "undo"))
        try:
            if action == "put":
                works.put(name, degree, rests)
            elif action == "fix":
                works.fix(one, degree, rests)
            elif action in ("lay", "change"):
                works.do((action, name if action == "lay" else one, text))
            elif action == "bring":
                works.bring(name, (chance.randrange(prime), 1))
            elif action == "undo":
                works.undo()
            else:
                works.do((action, one))
        except (ValueError, LookupError):
            pass


class BadPages(Case):
    ROWS = FULL.splitlines()

    def text(self, rows):
        return "".join(f"{row}\n" for row in rows)

    def test_empty_text(self):
        self.bad("", 0)

    def test_first_row(self):
        for row in (
            "", "prime", "prime ", "prime x", "prime 05", "prime  5", " prime 5", "prime 5 ", "prime 4", "prime 1", "prime 0",
            "prime 99", "prime 101", "prime -5", "prime +5", "Prime 5", "prime 5 5", "prime5", "put a 1 1", "guest f x", "lay a 1",
            "prime 00", "prime 5x",
        ):
            self.bad(row, 0)
            self.bad(row + "\n", 0)
            self.bad(row + "\nput a 1 1\n", 0)

    def test_ends_cut_off(self):
        for at in range(len(FULL)):
            text = FULL[:at]
            if text.endswith("\n"):
                self.assertEqual(page(read_page(text)), text)
            else:
                self.bad(text, text.count("\n"))

    def test_last_row_without_its_line_feed(self):
        self.bad("prime 5", 0)
        self.bad("prime 5\nput a 1 1", 1)
        self.bad(FULL + "put zz 1 1", len(self.ROWS))
        self.bad(FULL + " ", len(self.ROWS))
        # an earlier bad row comes first
        self.bad("prime 5\nput a 1 9\nput b", 1)

    def test_needless_line_feeds(self):
        for at in range(len(self.ROWS) + 1):
            self.bad(self.text(self.ROWS[:at] + [""] + self.ROWS[at:]), at)

    def test_rows_out(self):
        self.bad(self.text(self.ROWS[1:]), 0)
        needed = {
            "put a": "lay d", "put b": "lay aa", "put z": "lay e", "lay d": "lay aa", "lay e": "lay s", "lay aa": "lay s",
        }
        for at, row in enumerate(self.ROWS):
            rows = self.ROWS[:at] + self.ROWS[at + 1:]
            start = " ".join(row.split()[:2])
            if start in needed:
                self.bad(self.text(rows), next(k for k, other in enumerate(rows) if other.startswith(needed[start])))
            elif at > 0:
                self.assertEqual(page(read_page(self.text(rows))), self.text(rows))

    def test_rows_twice(self):
        for at, row in enumerate(self.ROWS):
            self.bad(self.text(self.ROWS[:at + 1] + self.ROWS[at:]), at + 1)
            if at:
                self.bad(FULL + row + "\n", len(self.ROWS))

    def test_rows_exchanged(self):
        for at in range(len(self.ROWS) - 1):
            rows = list(self.ROWS)
            rows[at], rows[at + 1] = rows[at + 1], rows[at]
            # the second one stands out of its order, unless the first one leans on it already
            first = at if at == 0 or self.leans(rows[at], rows[at + 1]) else at + 1
            self.bad(self.text(rows), first)

    def leans(self, row, other):
        return row.startswith("lay") and other.split()[1] in re.findall("[a-z]+", row)[2:]

    def test_order_by_the_row_directly_ahead(self):
        # the last row belongs behind the one ahead of it, although before an earlier one
        self.bad("prime 5\nput c 1 1\nput a 1 1\nput b 1 1\n", 2)
        self.bad("prime 5\nput a 1 1\nguest f x\n", 2)
        self.bad("prime 5\nlay s 1\nput a 1 1\n", 2)
        self.bad("prime 5\nput a 1 1\nlay s a\nput b 1 1\n", 3)
        self.bad("prime 5\nput a 1 1\nlay s a\nlay b 2\n", 3)
        self.bad("prime 5\nput a 1 1\nlay t a\nlay u t\nlay s a\n", 4)
        self.bad("prime 5\nguest g x\nguest f x\n", 2)

    def test_a_blank_more_or_less_and_other_signs(self):
        for at, row in enumerate(self.ROWS):
            for place in range(len(row) + 1):
                text = row[:place] + " " + row[place:]
                self.bad(self.text(self.ROWS[:at] + [text] + self.ROWS[at + 1:]), at)
            for place in range(len(row)):
                if row[place] == " ":
                    text = row[:place] + row[place + 1:]
                    self.bad(self.text(self.ROWS[:at] + [text] + self.ROWS[at + 1:]), at)

    def test_not_so_written(self):
        for row in (
            "put a 1 01", "put a 01 1", "put a 2 1 0", "put a 2 3 0", "put a 4 2 0 0 0", "put a 1 5", "put a 1 -1", "put a 1",
            "put a", "put", "put a 2 1", "put a 2 1 1 1", "put a f 1 1", "put a 13 1", "put a 0 1", "put a 1 1x", "put a x 1",
            "put A 1 1", "put abcdefghi 1 1", "put a1 1 1", "put  1 1", "put a 1 123", "put a 1 +1", "Put a 1 1", "fix a 1 1",
            "change a 1", "drop a", "leave f", "bring f x", "prime 5", "lay a", "lay a ", "lay a (1)", "lay a 1+1", "lay a 1 +  1",
            "lay a 01", "lay a b", "lay a a", "lay a 1 / 0", "lay a 5^-1", "lay a 1^+2", "lay a 2^-0", "lay a ((1 + 1))",
            "lay a (1 * 2) + 3", "lay a 1 + (2", "lay A 1", "lay a X", "guest f", "guest f ", "guest f 1", "guest f 0",
            "guest f 1 + x^2", "guest f x + 1", "guest f 2x", "guest f 1x", "guest f 02 + x^2", "guest f 2 + x^2 ", "guest f 2+x^2",
            "guest f 5 + x^2", "guest F x", "guest f g x", "guest  x", "things a 1", "#", "x", " ", "none",
        ):
            self.bad(f"prime 5\n{row}\n", 1)
            self.bad(f"prime 5\nguest a x\n{row}\nput z 1 1\n", 2)

    def test_refused(self):
        names = "abcdefghijk"
        rows = ["prime 5"] + [f"put {name} 1 1" for name in names]
        self.bad(self.text(rows), 11)
        self.assertEqual(len(read_page(self.text(rows[:-1]))), 10)
        rows = ["prime 5"] + [f"guest {name} x" for name in names[:7]]
        self.bad(self.text(rows), 7)
        self.assertEqual(len(read_page(self.text(rows[:-1])).guests()), 6)
        self.bad("prime 2\nput a 3 0 1 0\nput b 5 0 1 0 0 0\nlay c a + b\n", 3)
        self.bad("prime 5\nput a 1 0\nlay c 1 / a\n", 2)

    def test_the_first_bad_row(self):
        self.bad("prime 5\nput a 1 1\nput a 1 1\nlay\nput", 2)
        self.bad("prime 6\nput a 1 9\n", 0)


class Interface(Case):
    def test_names_of_what_is_handed_in(self):
        self.assertEqual(str(inspect.signature(page)), "(works)")
        self.assertEqual(str(inspect.signature(read_page)), "(text)")
        self.assertEqual((page.__module__, read_page.__module__), ("rungfields.pages",) * 2)
        self.assertEqual(page(works=read_page(text=FULL)), FULL)


if __name__ == "__main__":
    unittest.main()
