"""rungfields.desk: promises [2] and [27]."""

import inspect
import unittest

from rungfields.desk import Desk
from rungfields.pages import page
from rungfields.polys import poly_text
from rungfields.rests import LEAST
from rungfields.works import Works


def desk(*lines, prime=5):
    told = Desk(Works(prime=prime))
    for line in lines:
        assert told.say(line) == "done", line
    return told


START = ("bring f 2 + x^2", "put a 2 1 4", "put b 3 0 1 0", "put z 1 0", "lay s a * b", "lay t s + 1")


class Case(unittest.TestCase):
    def says(self, told, line, answer):
        self.assertEqual(told.say(line), answer, repr(line))

    def left(self, told, line, answer):
        """An answer that leaves the works as they are."""
        known = page(told.works()), told.works().depth()
        self.says(told, line, answer)
        self.assertEqual((page(told.works()), told.works().depth()), known, repr(line))


class Made(Case):
    def test_the_very_works(self):
        works = Works(prime=7)
        told = Desk(works)
        self.assertIs(told.works(), works)
        self.says(told, "put a 1 6", "done")
        self.assertEqual(works.worth("a"), (1, (6,)))
        works.drop("a")
        self.says(told, "names", "none")

    def test_its_own_works(self):
        one, other = Desk(), Desk(works=None)
        self.assertEqual(one.works(), Works(prime=LEAST))
        self.assertEqual(one.works().prime(), 2)
        self.says(one, "put a 2 0 1", "done")
        self.assertEqual(len(other.works()), 0)
        self.says(one, "worth a", "2: 0 1")


class Deeds(Case):
    def test_each(self):
        told = desk(*START)
        works = Works(prime=5)
        works.bring("f", (2, 0, 1))
        works.put("a", 2, (1, 4))
        works.put("b", 3, (0, 1, 0))
        works.put("z", 1, (0,))
        works.lay("s", "a * b")
        works.lay("t", "s + 1")
        self.assertEqual(told.works(), works)
        self.assertEqual(told.works().deeds(), works.deeds())
        for line, action in (
            ("fix a f 0 1", lambda: works.fix("a", "f", (0, 1))), ("change t s^-2' - 3", lambda: works.change("t", "s^-2' - 3")),
            ("drop t", lambda: works.drop("t")), ("undo", works.undo), ("redo", works.redo), ("leave f", lambda: works.leave("f")),
            ("put c 12 0 1 2 3 4 0 1 2 3 4 0 1", lambda: works.put("c", 12, (0, 1, 2, 3, 4, 0, 1, 2, 3, 4, 0, 1))),
            ("fix c 4 1 0 0 0", lambda: works.fix("c", 4, (1, 0, 0, 0))), ("bring g x", lambda: works.bring("g", (0, 1))),
            ("put d g 3", lambda: works.put("d", "g", (3,))), ("lay e (a)+(b)", lambda: works.lay("e", "(a)+(b)")),
        ):
            self.says(told, line, "done")
            action()
            self.assertEqual(told.works(), works)
            self.assertEqual((told.works().depth(), told.works().deeds()), (works.depth(), works.deeds()))

    def test_two_figures(self):
        told = desk("put a 1 96", "put b 10 96 0 10 0 0 0 0 0 0 1", "bring f 96 + 11x + x^3", prime=97)
        self.says(told, "worth a", "1: 96")
        self.says(told, "worth b", "10: 96 0 10 0 0 0 0 0 0 1")


class Questions(Case):
    def test_answers(self):
        told = desk(*START)
        works = told.works()
        for line, answer in (
            ("names", "a b s t z"), ("guests", "f"), ("worth a", "2: 1 4"), ("worth z", "1: 0"), ("formula s", "a * b"),
            ("formula t", "s + 1"), ("formula a", "none"), ("leans t", "a b s"), ("leans s", "a b"), ("leans a", "none"),
            ("alike a a", "yes"), ("alike a b", "no"), ("alike s t", "no"), ("least z", "x"),
            ("least a", poly_text(works.tower().least((2, (1, 4))), prime=5)),
            ("least s", poly_text(works.tower().least(works.worth("s")), prime=5)),
            ("worth s", "6: " + " ".join(str(rest) for rest in works.worth("s")[1])),
        ):
            self.left(told, line, answer)

    def test_of_nothing(self):
        told = desk()
        for line in ("names", "guests"):
            self.left(told, line, "none")

    def test_several(self):
        told = desk("put b 1 1", "put a 1 1", "bring g x", "bring f x", "bring abc x", "lay c a + b - b")
        self.says(told, "names", "a b c")
        self.says(told, "guests", "abc f g")
        self.says(told, "alike a c", "yes")
        self.says(told, "least a", "4 + x")
        self.says(told, "formula c", "a + b - b")
        self.says(told, "undo", "done")
        self.says(told, "names", "a b")

    def test_formulas_as_written(self):
        told = desk(*START, "lay q ((a) + b)*( z+1 ) ' ^ - 2 ^2")
        self.says(told, "formula q", "(a + b) * (z + 1)'^-2^2")


class Refused(Case):
    def test_by_their_names(self):
        told = desk(*START)
        for line, word in (
            ("bring f x", "Taken"), ("bring F x", "BadName"), ("bring abcdefghi x", "BadName"), ("bring g 2", "BadRule"),
            ("bring g 2x", "BadRule"), ("bring g 1 + x^2", "NotWhole"), ("bring g 0", "BadRule"), ("leave g", "NoGuest"),
            ("leave a", "NoGuest"), ("put a 1 1", "Taken"), ("put A 1 1", "BadName"), ("put c 0 1", "BadDegree"),
            ("put c 13 1", "BadDegree"), ("put c 99 1", "BadDegree"), ("put c g 1", "NoGuest"), ("put c G1 1", "NoGuest"),
            ("put c -1 1", "NoGuest"), ("put c z 1", "NoGuest"), ("put c 1 5", "BadNumber"), ("put c 2 1", "BadNumber"), ("put c 1 1 1", "BadNumber"),
            ("put c f 1 99", "BadNumber"), ("fix c 1 1", "NoName"), ("fix a 0 1", "BadDegree"), ("fix a g 1", "NoGuest"),
            ("fix a 2 1 5", "BadNumber"), ("lay a b", "Taken"), ("lay A b", "BadName"), ("lay c a +", "BadText"),
            ("lay c A", "BadText"), ("lay c a b", "BadText"), ("lay c x", "NoName"), ("lay c 1 / z", "NoInverse"),
            ("change c a", "NoName"), ("change s (a", "BadText"), ("change s q", "NoName"), ("change s t", "Ring"),
            ("change s z^-1", "NoInverse"), ("drop c", "NoName"), ("drop a", "Used"), ("redo", "NothingLeft"),
            ("worth c", "NoName"), ("formula c", "NoName"), ("leans c", "NoName"), ("least c", "NoName"), ("alike a c", "NoName"),
            ("alike c a", "NoName"), ("worth f", "NoName"), ("worth A", "NoName"), ("worth 1", "NoName"), ("drop *", "NoName"),
        ):
            self.left(told, line, f"no {word}")

    def test_too_tall_held_and_full(self):
        told = desk("put c 3 0 1 0", "put e 5 0 1 0 0 0", "put m 1 1", "lay n 1 / m", "lay q c * m")
        self.left(told, "lay x c * e", "no TooTall")
        self.left(told, "fix m 1 0", "no Held")
        self.left(told, "change m e", "no Held")
        for name in "ghijk":
            self.says(told, f"put {name} 1 1", "done")
            self.says(told, f"bring {name} x", "done")
        self.left(told, "put l 1 1", "no Full")
        self.left(told, "lay l 1", "no Full")
        self.says(told, "bring l x", "done")
        self.left(told, "bring m x", "no Full")

    def test_nothing_left(self):
        told = desk()
        self.left(told, "undo", "no NothingLeft")
        self.left(told, "redo", "no NothingLeft")

    def test_the_polynomial_is_read_ahead_of_all_else(self):
        told = desk(*START)
        for text in ("y", "2 + 9x", "x + 1", "1x", "x^25", "2 +", "+", "x^2 + 2", "02", "2+x^2"):
            for name in ("F", "f", "g", "abcdefghi"):
                self.left(told, f"bring {name} {text}", "no BadText")
        self.left(told, "bring F 1 + x^2", "no BadName")
        self.left(told, "bring f 1 + x^2", "no Taken")


class What(Case):
    def test_lines_of_no_form(self):
        told = desk(*START)
        for line in (
            "", " ", "  ", "Names", "name", "NAMES", "names a", "guests f", "undo 1", "redo a", "worth", "worth a b", "formula",
            "formula a b", "leans", "leans a b", "least", "least a b", "alike", "alike a", "alike a b s", "drop", "drop a b", "leave",
            "leave f g", "bring", "bring g", "lay", "lay c", "change", "change s", "put", "put c", "put c 1", "fix", "fix a",
            "fix a 2", "many", "trial", "twin", "deeds", "depth", "page", "seen a f", "do", "prime", "?", "done", "what", "none", "a",
            "put c f", "worth\na", "names\n", "\n", "undo\n",
        ):
            self.left(told, line, "what")

    def test_blanks(self):
        told = desk(*START)
        for line in (
            "names", "worth a", "put c 2 1 4", "fix a 2 1 1", "lay c a + b", "change s a + b", "bring g 3 + x^2", "drop t", "undo",
            "alike a b", "leave f", "lay c a",
        ):
            self.left(told, " " + line, "what")
            self.left(told, line + " ", "what")
            for at, sign in enumerate(line):
                if sign == " ":
                    self.left(told, line[:at] + " " + line[at:], "what")

    def test_fields_and_rests(self):
        told = desk(*START)
        for word in ("put c", "fix a", "put A", "put a", "fix c"):
            for field in ("02", "00", "100", "2x", "1a", "012", "2.0", "2-", "0x", "999999"):
                self.left(told, f"{word} {field} 1 1", "what")
                self.left(told, f"{word} {field} 1 x", "what")
            for rests in ("x", "1 x", "x 1", "01", "1 00", "-1", "1 -1", "+1", "100", "1 100", "1.", "1,4", "f", "1 4x", "'", "1 ("):
                self.left(told, f"{word} 2 {rests}", "what")
                self.left(told, f"{word} f {rests}", "what")
                self.left(told, f"{word} g {rests}", "what")
                self.left(told, f"{word} 13 {rests}", "what")


class Interface(Case):
    def test_names_of_what_is_handed_in(self):
        self.assertEqual(str(inspect.signature(Desk)), "(works=None)")
        self.assertEqual(Desk.__module__, "rungfields.desk")
        for name, form in {"works": "(self)", "say": "(self, line)"}.items():
            self.assertEqual(str(inspect.signature(vars(Desk)[name])), form)
        self.assertEqual(Desk(works=Works(prime=3)).say(line="names"), "none")


if __name__ == "__main__":
    unittest.main()
