"""rungfields.works, deeds and worths: promises [2], [23] and [24], and of [25] equality."""

import inspect
import itertools
import random
import unittest

from rungfields.errors import BadDegree, BadName, BadNumber, BadPoly, BadPrime, BadRule, BadText, Full, Held
from rungfields.errors import NoGuest, NoInverse, NoName, NotWhole, Outside, Ring, Taken, TooTall, Used
from rungfields.guests import Guest
from rungfields.rests import LEAST, PRIMES
from rungfields.tongue import read
from rungfields.towers import Tower
from rungfields.works import Works

FORTY = 10**39 + 12345
NO_NAMES = ("", "\u00e9", "abcdefghi", "A", "aB", "a1", "1", "a b", " a", "a ", "a_", "a\n", "a'", "a+b", "abcdefghijklmnop")
NO_DEGREES = (0, 13, -1, FORTY, True, False)
RULE = (2, 0, 1)
OTHER = (3, 0, 1)


def state(works):
    """All that can be asked of works."""
    return (
        works.names(), works.guests(), works.worths(), works.deeds(), works.depth(), len(works), repr(works),
        [works.formula(name) for name in works.names()], [works.leans(name) for name in works.names()],
        [works.guest(name).field() for name in works.guests()],
    )


def some_works():
    """Works by 5 with a guest of degree 2, numbers a, b and nil, and formulas on them."""
    works = Works(prime=5)
    works.bring("f", RULE)
    works.put("a", 2, (1, 4))
    works.put("b", 3, (0, 1, 0))
    works.put("nil", 1, (0,))
    works.lay("s", "a * b")
    works.lay("t", "s + a / b")
    works.lay("u", "3")
    return works


def full_works():
    """Works by 5 with ten things and six guests."""
    works = Works(prime=5)
    for name in "abcdefghij":
        works.put(name, 1, [1])
    for name in "fghijk":
        works.bring(name, RULE)
    return works


class Case(unittest.TestCase):
    def refused(self, works, error, action, *told, **fields):
        """A deed is refused, by its method and by its tuple, and changes nothing."""
        known = state(works)
        for call in (lambda: getattr(works, action)(*told), lambda: works.do((action, *told))):
            with self.assertRaises(error, msg=f"{action} {told}") as caught:
                call()
            self.assertEqual(caught.exception.word, error.__name__)
            for name, value in fields.items():
                self.assertEqual(getattr(caught.exception, name), value)
            self.assertEqual(state(works), known)


class Made(Case):
    def test_new_ones(self):
        for prime in PRIMES:
            works = Works(prime=prime)
            self.assertEqual(works.prime(), prime)
            self.assertEqual(works.tower(), Tower(prime=prime))
            self.assertIsInstance(works.tower(), Tower)
            self.assertEqual((works.names(), works.guests(), works.worths(), works.deeds()), ([], [], [], []))
            self.assertEqual((works.depth(), len(works)), ((0, 0), 0))
            self.assertEqual(repr(works), f"Works(0 guests, 0 things, by {prime})")
        self.assertEqual(Works().prime(), LEAST)

    def test_bad_prime(self):
        for prime in (0, 1, 4, -5, 99, 101, FORTY):
            with self.assertRaises(BadPrime):
                Works(prime=prime)

    def test_repr_and_len(self):
        works = Works(prime=5)
        works.bring("f", RULE)
        works.put("a", 1, (3,))
        works.lay("b", "a")
        self.assertEqual(repr(works), "Works(1 guests, 2 things, by 5)")
        self.assertEqual(len(works), 2)
        self.assertEqual(repr(some_works()), "Works(1 guests, 6 things, by 5)")
        self.assertEqual(len(some_works()), 6)


class Bring(Case):
    def test_guests_come_and_go(self):
        works = Works(prime=5)
        self.assertIsNone(works.bring("g", RULE))
        works.bring("f", OTHER)
        works.bring("abcdefgh", (0, 1))
        self.assertEqual(works.guests(), ["abcdefgh", "f", "g"])
        self.assertEqual(works.guest("g"), Guest(Tower(prime=5), RULE))
        self.assertIsInstance(works.guest("g"), Guest)
        self.assertIs(works.guest("g").tower(), works.tower())
        self.assertIsNone(works.leave("g"))
        self.assertEqual(works.guests(), ["abcdefgh", "f"])
        works.bring("g", (0, 1))
        self.assertEqual(works.guest("g").field().rule(), (0, 1))

    def test_refusals(self):
        works = some_works()
        for name in NO_NAMES:
            self.refused(works, BadName, "bring", name, RULE)
        self.refused(works, Taken, "bring", "f", RULE)
        for rule in ((1, 0), (5, 1), (-1, 1), (True, 1), (1, True), (0,), (1,) * 26):
            self.refused(works, BadPoly, "bring", "g", rule)
        for rule in ((), (1,), (1, 2), (2, 0, 3), (1,) + (0,) * 12 + (1,)):
            self.refused(works, BadRule, "bring", "g", rule)
        self.refused(works, NotWhole, "bring", "g", (1, 0, 1), part=(2, 1))
        self.refused(full_works(), Full, "bring", "l", RULE)

    def test_two_due_at_once(self):
        works = full_works()
        bad = [("A", BadName), ("f", Taken), ("l", None)]
        rules = [((1, 0), BadPoly), ((1, 2), BadRule), ((1, 0, 1), NotWhole), (RULE, Full)]
        for (name, first), (rule, second) in itertools.product(bad, rules):
            self.refused(works, first or second, "bring", name, rule)

    def test_six_and_one_more(self):
        works = Works(prime=5)
        for name in "abcdef":
            works.bring(name, RULE)
        self.refused(works, Full, "bring", "g", RULE)
        works.leave("c")
        works.bring("g", RULE)
        self.assertEqual(works.guests(), list("abdefg"))

    def test_leave_refused(self):
        works = some_works()
        for name in ("g", "a", "F", "", "abcdefghi"):
            self.refused(works, NoGuest, "leave", name, name=name)
            with self.assertRaises(NoGuest) as caught:
                works.guest(name)
            self.assertEqual((caught.exception.word, caught.exception.name), ("NoGuest", name))

    def test_a_guest_and_a_thing_of_one_name(self):
        works = Works(prime=5)
        works.bring("a", RULE)
        works.put("a", "a", (0, 1))
        works.bring("b", OTHER)
        works.lay("b", "a + a")
        self.assertEqual((works.names(), works.guests()), (["a", "b"], ["a", "b"]))
        works.leave("a")
        works.drop("b")
        self.assertEqual((works.names(), works.guests()), (["a"], ["b"]))

    def test_guests_that_leave_while_things_stay(self):
        works = Works(prime=5)
        works.bring("f", RULE)
        works.put("a", "f", (1, 3))
        worth = works.worth("a")
        works.leave("f")
        self.assertEqual(works.worth("a"), worth)
        with self.assertRaises(NoGuest):
            works.seen("a", "f")
        works.bring("f", RULE)
        self.assertEqual(works.seen("a", "f"), (1, 3))


class Put(Case):
    def test_by_degree_and_by_guest(self):
        works = Works(prime=5)
        works.bring("f", RULE)
        tower = works.tower()
        for name, field, rests, worth in (
            ("a", 2, (1, 4), (2, (1, 4))), ("b", 4, [3, 0, 0, 0], (1, (3,))), ("c", 1, [0], (1, (0,))),
            ("d", "f", (0, 1), works.guest("f").inward((0, 1))), ("e", "f", [4, 0], (1, (4,))),
            ("g", 12, (0, 1) + (0,) * 10, (12, (0, 1) + (0,) * 10)), ("h", 6, tower.raised((3, (1, 2, 0)), 6)[1], (3, (1, 2, 0))),
        ):
            self.assertIsNone(works.put(name, field, rests))
            self.assertEqual(works.worth(name), worth)
            self.assertIsNone(works.formula(name))
            self.assertEqual(works.leans(name), [])

    def test_refusals(self):
        works = some_works()
        for name in NO_NAMES:
            self.refused(works, BadName, "put", name, 1, (1,))
        for name in ("a", "s"):
            self.refused(works, Taken, "put", name, 1, (1,))
        for degree in NO_DEGREES:
            self.refused(works, BadDegree, "put", "c", degree, (1,))
        for guest in ("g", "a", "F", "2"):
            self.refused(works, NoGuest, "put", "c", guest, (1, 1), name=guest)
        for field in (2, "f"):
            for rests in ((), (1,), (1, 1, 1), (5, 0), (-1, 0), (True, 0), (0, False), (FORTY, 0), [], [1], [1, 5], [1, True]):
                self.refused(works, BadNumber, "put", "c", field, rests)
        self.refused(full_works(), Full, "put", "k", 1, (1,))

    def test_two_due_at_once(self):
        works = full_works()
        names = [("A", BadName), ("a", Taken), ("k", None)]
        fields = [(0, (7,), BadDegree), ("x", (7,), NoGuest), (2, (7,), BadNumber), ("f", (7, 0), BadNumber), (1, [1], Full)]
        for (name, first), (field, rests, second) in itertools.product(names, fields):
            self.refused(works, first or second, "put", name, field, rests)

    def test_ten_and_one_more(self):
        works = full_works()
        self.assertEqual(len(works), 10)
        self.refused(works, Full, "put", "k", 1, (1,))
        self.refused(works, Full, "lay", "k", "a")
        works.drop("e")
        works.lay("k", "a")
        self.assertEqual(works.names(), list("abcdfghijk"))
        self.refused(works, Full, "put", "e", 1, (1,))

    def test_fix(self):
        works = some_works()
        self.assertIsNone(works.fix("a", 2, [3, 1]))
        self.assertEqual(works.worth("a"), (2, (3, 1)))
        self.assertEqual(works.worth("s"), works.tower().times((2, (3, 1)), (3, (0, 1, 0))))
        works.fix("t", "f", (2, 2))
        self.assertEqual(works.worth("t"), works.guest("f").inward((2, 2)))
        self.assertEqual((works.formula("t"), works.leans("t")), (None, []))

    def test_fix_refused(self):
        works = some_works()
        for name in ("c", "f", "A", "", "abcdefghi"):
            self.refused(works, NoName, "fix", name, 1, (1,), name=name)
            self.refused(works, NoName, "fix", name, 0, (7,), name=name)
            self.refused(works, NoName, "fix", name, "x", (7,), name=name)
        for degree in NO_DEGREES:
            self.refused(works, BadDegree, "fix", "b", degree, (0,))
        self.refused(works, NoGuest, "fix", "b", "g", (0, 5), name="g")
        for field in (2, "f"):
            for rests in ((), (1,), (1, 1, 1), (5, 0), (True, 0), [0, -1]):
                self.refused(works, BadNumber, "fix", "b", field, rests)
        self.refused(works, Held, "fix", "b", 2, (0, 0), by="t")


class Lay(Case):
    def test_worths_by_formulas(self):
        works = some_works()
        tower = works.tower()
        a, b = (2, (1, 4)), (3, (0, 1, 0))
        for text, worth in (
            ("a", a), ("a + b", tower.plus(a, b)), ("a - b", tower.minus(a, b)), ("a * b", tower.times(a, b)),
            ("a / b", tower.over(a, b)), ("a^7", tower.power(a, 7)), ("a^-7", tower.power(a, -7)), ("a'", tower.turned(a)),
            ("a^0", (1, (1,))), ("nil^0", (1, (1,))), ("nil^3", (1, (0,))), ("7", (1, (2,))), ("999999", (1, (4,))), ("0", (1, (0,))),
            ("(a + b)'", tower.turned(tower.plus(a, b))), ("a + b * b", tower.plus(a, tower.times(b, b))),
            ("a - b - a", tower.minus((1, (0,)), b)), ("1 / a / b", tower.undone(tower.times(a, b))),
            ("s", tower.times(a, b)), ("s - a * b", (1, (0,))), ("t - s", tower.over(a, b)), ("2^999999", (1, (3,))),
            ("a^5 - a'", (1, (0,))), ("a''", a), ("u * u", (1, (4,))),
        ):
            self.assertIsNone(works.lay("x", text))
            self.assertEqual(works.worth("x"), worth, text)
            works.drop("x")

    def test_formulas_as_written(self):
        works = some_works()
        works.lay("x", "  ((a+b))*( b ) ^ - 2'")
        self.assertEqual(works.formula("x"), "(a + b) * b^-2'")
        self.assertIsNone(works.formula("a"))

    def test_refusals(self):
        works = some_works()
        for name in NO_NAMES:
            self.refused(works, BadName, "lay", name, "a")
        for name in ("a", "s"):
            self.refused(works, Taken, "lay", name, "a")
        for text, at in (("", 0), ("a +", 3), ("a b", 2), ("A", 0), ("a\n", 1), ("a" + "'" * 40, 40), ("01", 0)):
            self.refused(works, BadText, "lay", "c", text, at=at)
        for text, name in (("c", "c"), ("a + x * y", "x"), ("y / x", "y"), ("f", "f"), ("a + (z - c)'", "z"), ("x^2 + (", None)):
            if name is not None:
                self.refused(works, NoName, "lay", "c", text, name=name)
        for text in ("1 / nil", "a / (b - b)", "nil^-1", "5^-3", "1 / 10", "a / nil'"):
            self.refused(works, NoInverse, "lay", "c", text)
        self.refused(full_works(), Full, "lay", "k", "a")

    def test_too_tall(self):
        works = Works(prime=2)
        for degree, name in enumerate("bcdefgh", start=2):
            works.put(name, degree, (0, 1) + (0,) * (degree - 2))
        for text, tall in (("b * g", 14), ("c + e", 15), ("b + c + e", 30), ("e * (b + c)", 30), ("h - c", 24), ("(d + f) / e", 60)):
            self.refused(works, TooTall, "lay", "z", text, tall=tall)
        works.lay("z", "(b + c) * d")
        self.assertEqual(works.worth("z")[0], 12)

    def test_what_is_met_first(self):
        works = Works(prime=2)
        for name, degree in (("b", 2), ("c", 3), ("e", 5), ("g", 7)):
            works.put(name, degree, (0, 1) + (0,) * (degree - 2))
        for text, error, tall in (
            ("1 / 0 + c * e", NoInverse, None), ("c * e + 1 / 0", TooTall, 15), ("c * e / 0", TooTall, 15),
            ("c / 0 * e", NoInverse, None), ("b + (1 / 0) * (c * e)", NoInverse, None), ("(b + e) * (c + e)", TooTall, 15),
            ("(c + e) - (b + g)", TooTall, 15), ("(b + g) - (c + e)", TooTall, 14), ("0^-1 + (c * e)", NoInverse, None),
            ("c * e + b * g", TooTall, 15), ("g / (c * e)", TooTall, 15), ("e * b * 1 / 0", NoInverse, None),
        ):
            fields = {} if tall is None else {"tall": tall}
            self.refused(works, error, "lay", "z", text, **fields)

    def test_two_due_at_once(self):
        works = full_works()
        names = [("A", BadName), ("a", Taken), ("k", None)]
        texts = [("a + x +", BadText), ("x / 0", NoName), ("1 / 0", NoInverse), ("a", Full)]
        for (name, first), (text, second) in itertools.product(names, texts):
            self.refused(works, first or second, "lay", name, text)
        works = Works(prime=2)
        works.put("c", 3, (0, 1, 0))
        works.put("e", 5, (0, 1, 0, 0, 0))
        for name in "fghijklm":
            works.put(name, 1, (1,))
        self.refused(works, TooTall, "lay", "z", "c + e", tall=15)
        self.refused(works, NoName, "lay", "z", "(c + e) * y", name="y")

    def test_change(self):
        works = some_works()
        tower = works.tower()
        self.assertIsNone(works.change("a", "b^2"))
        self.assertEqual((works.formula("a"), works.leans("a")), ("b^2", ["b"]))
        self.assertEqual(works.worth("a"), tower.power((3, (0, 1, 0)), 2))
        self.assertEqual(works.worth("s"), tower.power((3, (0, 1, 0)), 3))
        self.assertEqual(works.leans("s"), ["a", "b"])
        works.change("s", "a")
        self.assertEqual(works.worth("t"), tower.plus(tower.power((3, (0, 1, 0)), 2), (3, (0, 1, 0))))
        works.fix("a", 1, (2,))
        self.assertEqual((works.formula("a"), works.worth("s")), (None, (1, (2,))))

    def test_change_refused(self):
        works = some_works()
        for name in ("c", "f", "A", ""):
            self.refused(works, NoName, "change", name, "a", name=name)
            self.refused(works, NoName, "change", name, "a +", name=name)
            self.refused(works, NoName, "change", name, "x", name=name)
        self.refused(works, BadText, "change", "a", "x + ", at=4)
        self.refused(works, NoName, "change", "a", "a + s + x", name="x")
        self.refused(works, NoName, "change", "t", "y + x", name="y")
        for name, text in (("a", "a"), ("a", "s"), ("a", "t"), ("a", "b + t'"), ("s", "t"), ("s", "s * 2"), ("b", "1 / (t - t)")):
            self.refused(works, Ring, "change", name, text)
        self.refused(works, NoInverse, "change", "t", "a / nil")
        self.refused(works, NoInverse, "change", "b", "1 / nil")
        self.refused(works, Held, "change", "b", "nil", by="t")
        tall = Works(prime=2)
        for name, degree in (("c", 3), ("e", 5), ("b", 2)):
            tall.put(name, degree, (0, 1) + (0,) * (degree - 2))
        self.refused(tall, TooTall, "change", "b", "c * e", tall=15)

    def test_a_formula_of_itself_alone_is_a_ring(self):
        works = Works(prime=5)
        works.put("a", 1, (1,))
        self.refused(works, Ring, "change", "a", "a / 0")
        works.lay("b", "a")
        works.lay("c", "b")
        self.refused(works, Ring, "change", "a", "2 * c")
        works.change("b", "3")
        works.change("a", "c")
        self.assertEqual(works.worth("a"), (1, (3,)))


class Leaning(Case):
    def test_what_leans_on_what(self):
        works = some_works()
        self.assertEqual([works.leans(name) for name in works.names()], [[], [], [], ["a", "b"], ["a", "b", "s"], []])
        works.lay("z", "t^2 - nil + t")
        self.assertEqual(works.leans("z"), ["a", "b", "nil", "s", "t"])
        works.change("s", "u")
        self.assertEqual(works.leans("z"), ["a", "b", "nil", "s", "t", "u"])
        works.change("t", "s")
        self.assertEqual(works.leans("z"), ["nil", "s", "t", "u"])

    def test_used(self):
        works = some_works()
        self.refused(works, Used, "drop", "a", by="s")
        self.refused(works, Used, "drop", "s", by="t")
        works.lay("k", "b + s")
        self.refused(works, Used, "drop", "b", by="k")
        self.refused(works, Used, "drop", "s", by="k")
        works.drop("k")
        self.assertIsNone(works.drop("t"))
        self.refused(works, Used, "drop", "b", by="s")
        works.drop("s")
        works.drop("a")
        self.assertEqual(works.names(), ["b", "nil", "u"])

    def test_used_just_where_it_stands_in_a_formula(self):
        works = Works(prime=3)
        works.put("a", 1, (1,))
        works.lay("z", "a")
        works.lay("b", "z")
        self.refused(works, Used, "drop", "a", by="z")

    def test_drop_refused(self):
        works = some_works()
        for name in ("c", "f", "A", "", "abcdefghi"):
            self.refused(works, NoName, "drop", name, name=name)

    def test_held_by_the_first_rising(self):
        works = Works(prime=5)
        works.put("m", 1, (1,))
        works.lay("z", "1 / m")
        self.refused(works, Held, "fix", "m", 1, (0,), by="z")
        works.lay("y", "m^-1")
        self.refused(works, Held, "fix", "m", 1, (0,), by="y")
        # b leans on a thing that can't be told, and is the first one
        works.lay("b", "3 + z")
        self.refused(works, Held, "fix", "m", 1, (0,), by="b")
        self.refused(works, Held, "change", "m", "5", by="b")
        works.lay("a", "m")
        self.refused(works, Held, "fix", "m", 1, [0], by="b")
        works.lay("aa", "0 * b")
        self.refused(works, Held, "fix", "m", 1, [0], by="aa")
        works.fix("m", 1, (2,))
        self.assertEqual([works.worth(name) for name in works.names()], [(1, (rest,)) for rest in (2, 0, 1, 2, 3, 3)])

    def test_held_by_what_is_too_tall(self):
        works = Works(prime=2)
        works.put("e", 5, (0, 1, 0, 0, 0))
        works.put("m", 1, (1,))
        works.lay("s", "e * m")
        works.lay("r", "m + m")
        self.refused(works, Held, "fix", "m", 3, (0, 1, 0), by="s")
        works.fix("m", 2, (0, 1))
        self.assertEqual(works.worth("s")[0], 10)

    def test_changed_things_that_are_put_right_on_the_way(self):
        works = Works(prime=5)
        works.put("m", 1, (1,))
        works.lay("n", "m - m")
        works.lay("o", "1 / (1 + n)")
        works.fix("m", 1, (0,))
        self.assertEqual(works.worth("o"), (1, (1,)))
        self.refused(works, Held, "change", "n", "4", by="o")

    def test_worths_in_the_order_of_leaning(self):
        # names run against the leaning
        works = Works(prime=97)
        works.put("z", 1, (1,))
        for name, under in zip("yxwvuts", "zyxwvut"):
            works.lay(name, f"{under} + {under}")
        self.assertEqual(works.worth("s"), (1, (128 % 97,)))
        works.fix("z", 1, (3,))
        self.assertEqual(works.worth("s"), (1, (384 % 97,)))
        self.assertEqual(works.worths(), [(name, (1, (3 * 2**at % 97,))) for at, name in reversed(list(enumerate("zyxwvuts")))])


    def test_worths_of_things_that_came_to_lean_on_later_ones(self):
        works = Works(prime=97)
        works.lay("a", "1")
        works.lay("b", "2")
        works.lay("c", "3")
        works.put("m", 1, (1,))
        works.change("c", "m + 1")
        works.change("b", "c * 2")
        works.change("a", "b - c")
        works.fix("m", 1, (10,))
        self.assertEqual(works.worths(), [("a", (1, (11,))), ("b", (1, (22,))), ("c", (1, (11,))), ("m", (1, (10,)))])
        works.change("a", "1 / (b - c)")
        self.refused(works, Held, "fix", "m", 1, (96,), by="a")


class Asked(Case):
    def test_names_worths_and_seen(self):
        works = some_works()
        self.assertEqual(works.names(), ["a", "b", "nil", "s", "t", "u"])
        self.assertEqual(works.worths(), [(name, works.worth(name)) for name in works.names()])
        guest = works.guest("f")
        self.assertEqual(works.seen("a", "f"), guest.outward((2, (1, 4))))
        self.assertEqual(works.seen("nil", "f"), (0, 0))

    def test_seen_refused(self):
        works = some_works()
        for name, guest, error, fields in (
            ("c", "f", NoName, {"name": "c"}), ("c", "g", NoName, {"name": "c"}), ("a", "g", NoGuest, {"name": "g"}),
            ("b", "g", NoGuest, {"name": "g"}), ("b", "f", Outside, {}), ("s", "f", Outside, {}), ("a", "a", NoGuest, {"name": "a"}),
        ):
            with self.assertRaises(error) as caught:
                works.seen(name, guest)
            self.assertEqual(caught.exception.word, error.__name__)
            for field, value in fields.items():
                self.assertEqual(getattr(caught.exception, field), value)

    def test_no_name(self):
        works = some_works()
        for action in (works.worth, works.formula, works.leans):
            for name in ("c", "f", "A", "", "abcdefghi"):
                with self.assertRaises(NoName) as caught:
                    action(name)
                self.assertEqual((caught.exception.word, caught.exception.name), ("NoName", name))

    def test_questions_change_nothing_and_tell_new_lists(self):
        works = some_works()
        known = state(works)
        for action in (works.names, works.guests, works.worths, works.deeds):
            action().clear()
            action().append(None)
        works.leans("t").clear()
        works.trial([("drop", "t")]).clear()
        self.assertEqual(state(works), known)


class Equal(Case):
    def check(self, one, other, same):
        self.assertIs(one == other, same)
        self.assertIs(other == one, same)
        self.assertIs(one != other, not same)

    def test_where_prime_guests_and_things_are(self):
        one, other = some_works(), some_works()
        self.check(one, other, True)
        other.drop("t")
        self.check(one, other, False)
        other.lay("t", " (s)+a/b ")
        self.check(one, other, True)
        one.undo()
        self.check(one, other, False)

    def test_steps_do_not_count(self):
        one, other = some_works(), some_works()
        one.many([])
        other.put("x", 1, (1,))
        other.undo()
        self.check(one, other, True)

    def test_homes_and_trees_count_not_worths(self):
        one, other = Works(prime=5), Works(prime=5)
        one.put("a", 4, (3, 0, 0, 0))
        other.put("a", 1, (3,))
        self.check(one, other, True)
        other.change("a", "3")
        self.check(one, other, False)
        one.change("a", "8")
        self.check(one, other, False)
        one.change("a", "3")
        self.check(one, other, True)

    def test_numbers_count(self):
        one, other = some_works(), some_works()
        other.fix("nil", 3, (0, 0, 1))
        self.check(one, other, False)
        other.fix("nil", 2, (0, 0))
        self.check(one, other, True)
        other.put("x", 1, (1,))
        self.check(one, other, False)
        one.put("y", 1, (1,))
        self.check(one, other, False)

    def test_guests_by_rules(self):
        one, other = Works(prime=5), Works(prime=5)
        one.bring("f", RULE)
        self.check(one, other, False)
        other.bring("f", OTHER)
        self.check(one, other, False)
        other.leave("f")
        other.bring("g", RULE)
        self.check(one, other, False)
        other.bring("f", RULE)
        other.leave("g")
        self.check(one, other, True)

    def test_primes(self):
        for one, other in itertools.product((2, 3, 5, 97), repeat=2):
            self.check(Works(prime=one), Works(prime=other), one == other)

    def test_in_another_order_of_deeds(self):
        one, other = Works(prime=3), Works(prime=3)
        for name in "abc":
            one.put(name, 1, (1,))
            one.bring(name, (1, 0, 1))
        for name in "cba":
            other.bring(name, (1, 0, 1))
            other.put(name, 1, (1,))
        self.check(one, other, True)

    def test_other_things(self):
        works = some_works()
        for other in (None, 5, "Works(1 guests, 6 things, by 5)", [], {}, works.tower(), works.names(), object()):
            self.assertFalse(works == other)
            self.assertTrue(works != other)
            self.assertFalse(other == works)


class ByChance(Case):
    def test_worths_against_formulas_put_in_one_another(self):
        chance = random.Random(24)
        for prime in (2, 3, 7, 97):
            works = Works(prime=prime)
            texts = {}
            for name in "abcd":
                degree = chance.choice((1, 2, 3, 4, 6))
                works.put(name, degree, [chance.randrange(prime) for _ in range(degree)])
                texts[name] = name
            for name in "efghi":
                one, other = chance.sample(sorted(texts), 2)
                text = chance.choice((f"{one} + {other}'", f"{one}^3 - {other}", f"{one} * {other}", f"({one} - 1) * {other}"))
                works.lay(name, text)
                texts[name] = "".join(f"({texts[sign]})" if sign in texts else sign for sign in text)
            for name in "efghi":
                works.put("z", 1, (0,))
                if len(texts[name]) < 400 and self.fits(texts[name]):
                    works.change("z", texts[name])
                    self.assertEqual(works.worth("z"), works.worth(name))
                works.drop("z")

    def fits(self, text):
        try:
            return bool(read(text))
        except BadText:
            return False


class Interface(Case):
    FORMS = {
        "bring": "(self, name, rule)", "leave": "(self, name)", "put": "(self, name, field, rests)",
        "fix": "(self, name, field, rests)", "lay": "(self, name, text)", "change": "(self, name, text)",
        "drop": "(self, name)", "do": "(self, deed)", "many": "(self, deeds)", "trial": "(self, deeds)", "undo": "(self)",
        "redo": "(self)", "twin": "(self)", "deeds": "(self)", "depth": "(self)", "prime": "(self)", "tower": "(self)",
        "names": "(self)", "guests": "(self)", "guest": "(self, name)", "formula": "(self, name)", "worth": "(self, name)",
        "leans": "(self, name)", "worths": "(self)", "seen": "(self, name, guest)",
    }

    def test_names_of_what_is_handed_in(self):
        self.assertEqual(str(inspect.signature(Works)), "(*, prime=2)")
        self.assertEqual(Works.__module__, "rungfields.works")
        for name, form in self.FORMS.items():
            self.assertEqual(str(inspect.signature(vars(Works)[name])), form)
        for name in ("__len__", "__repr__", "__eq__"):
            self.assertIn(name, vars(Works))

    def test_handed_in_by_name(self):
        works = Works(prime=5)
        works.bring(rule=RULE, name="f")
        works.put(rests=[1, 4], field=2, name="a")
        works.fix(rests=(1, 3), field="f", name="a")
        works.lay(text="a + 1", name="b")
        works.change(text="a'", name="b")
        self.assertEqual(works.worth(name="b"), works.tower().turned(works.worth(name="a")))
        self.assertEqual((works.formula(name="b"), works.leans(name="b")), ("a'", ["a"]))
        self.assertEqual(works.seen(guest="f", name="a"), (1, 3))
        self.assertEqual(len(works.guest(name="f")), 2)
        self.assertEqual(works.trial(deeds=[("drop", "b")]), [("a", works.worth("a"))])
        works.drop(name="b")
        works.leave(name="f")
        works.do(deed=("drop", "a"))
        works.many(deeds=[("put", "c", 1, (1,))])
        self.assertEqual((works.names(), works.guests()), (["c"], []))


if __name__ == "__main__":
    unittest.main()
