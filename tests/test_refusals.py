"""Each refusal of the whole program by a cause of its own: promises [1] and [2]."""

import unittest

from rungfields import errors
from rungfields.desk import Desk
from rungfields.fields import Field
from rungfields.grid import solved, stepped
from rungfields.guests import Guest, meeting
from rungfields.leadings import Leading
from rungfields.normals import mirror
from rungfields.over import over_parted
from rungfields.pages import read_page
from rungfields.parting import parts
from rungfields.polys import poly_value, read_poly
from rungfields.rests import undone
from rungfields.roots import root
from rungfields.tongue import read
from rungfields.towers import Tower
from rungfields.whole import least_whole
from rungfields.works import Works

TOWER = Tower(prime=3)
FIELD = Field((1, 0, 1), prime=3)


def works():
    told = Works(prime=3)
    told.put("a", 1, (1,))
    told.lay("s", "1 / a")
    told.bring("f", (1, 0, 1))
    return told


def full():
    told = works()
    for name in "bcdefghi":
        told.put(name, 1, (1,))
    return told


CAUSES = [
    ("BadPrime", {}, lambda: Tower(prime=9)),
    ("BadPrime", {}, lambda: least_whole(0, prime=1)),
    ("BadRest", {}, lambda: undone(3, prime=3)),
    ("BadRest", {}, lambda: poly_value((1, 1), 3, prime=3)),
    ("BadPoly", {}, lambda: parts((1, 0), prime=3)),
    ("BadPoly", {}, lambda: TOWER.splits(())),
    ("BadWidth", {}, lambda: stepped([], 25, prime=3)),
    ("BadTable", {"at": 1}, lambda: stepped([(1, 2), (1, 3)], 2, prime=3)),
    ("BadTable", {"at": 0}, lambda: solved([(1, 2)], (1,), 2, prime=3)),
    ("BadTable", {"at": 0}, lambda: mirror(FIELD, [(1, 0)])),
    ("BadRule", {}, lambda: Field((1, 2), prime=3)),
    ("NotWhole", {"part": (1, 1)}, lambda: Field((2, 0, 1), prime=3)),
    ("NotWhole", {"part": (0, 1)}, lambda: Guest(TOWER, (0, 0, 1))),
    ("BadDegree", {}, lambda: TOWER.own(13)),
    ("BadNumber", {}, lambda: FIELD.plus((1, 1), (1, 3))),
    ("NoInverse", {}, lambda: over_parted(FIELD, ((1, 1),), ())),
    ("NoInverse", {}, lambda: TOWER.over((2, (1, 1)), (1, (0,)))),
    ("NotWithin", {}, lambda: TOWER.lead(2, 3)),
    ("NotWithin", {}, lambda: root(FIELD, (1, 2, 0, 1))),
    ("NoLeading", {}, lambda: Leading(FIELD, FIELD, (1, 1))),
    ("Unfit", {}, lambda: meeting(Guest(TOWER, (0, 1)), Guest(Tower(prime=2), (0, 1)))),
    ("Outside", {}, lambda: Guest(TOWER, (1, 0, 1)).outward((3, (0, 1, 0)))),
    ("TooTall", {"tall": 35}, lambda: TOWER.plus((5, (0, 1, 0, 0, 0)), (7, (0, 1, 0, 0, 0, 0, 0)))),
    ("BadText", {"at": 4}, lambda: read("a + ")),
    ("BadText", {"at": 0}, lambda: read_poly("x + 1", prime=3)),
    ("BadName", {}, lambda: works().put("A", 1, (1,))),
    ("Taken", {}, lambda: works().lay("a", "1")),
    ("Full", {}, lambda: full().put("j", 1, (1,))),
    ("Ring", {}, lambda: works().change("a", "s")),
    ("Used", {"by": "s"}, lambda: works().drop("a")),
    ("Held", {"by": "s"}, lambda: works().fix("a", 1, (0,))),
    ("BadDeed", {}, lambda: works().do(("many", []))),
    ("BadPage", {"row": 1}, lambda: read_page("prime 3\nput a 1 3\n")),
    ("Stopped", {"at": 1, "kind": "Used"}, lambda: works().many([("leave", "f"), ("drop", "a")])),
    ("NoGuest", {"name": "g"}, lambda: works().guest("g")),
    ("NoName", {"name": "b"}, lambda: works().worth("b")),
    ("NothingLeft", {}, lambda: Works().undo()),
]
MISSING = {"NoGuest", "NoName", "NothingLeft"}
KINDS = {name for name in vars(errors) if name[0].isupper()} - {"RungError", "RungMissing"}


class Refusals(unittest.TestCase):
    def test_all_twenty_eight(self):
        self.assertEqual(len(KINDS), 28)
        self.assertEqual({word for word, _, _ in CAUSES}, KINDS)

    def test_word_fields_and_base(self):
        for word, fields, cause in CAUSES:
            base = errors.RungMissing if word in MISSING else errors.RungError
            with self.assertRaises(base, msg=word) as caught:
                cause()
            self.assertEqual(vars(caught.exception), {"word": word, **fields})
            self.assertIs(type(caught.exception), getattr(errors, word))
            self.assertIsInstance(caught.exception, LookupError if word in MISSING else ValueError)

    def test_caught_by_one_class_alone(self):
        for word, _, cause in CAUSES:
            for other in KINDS:
                caught = None
                try:
                    cause()
                except getattr(errors, other):
                    caught = other
                except Exception:
                    caught = word
                self.assertEqual(caught, word)
                self.assertEqual(issubclass(getattr(errors, word), getattr(errors, other)), word == other)

    def test_a_desk_answers_by_the_word(self):
        for line, word in (("put A 1 1", "BadName"), ("worth b", "NoName"), ("undo", "NothingLeft"), ("drop a", "Used")):
            desk = Desk(works() if word == "Used" else None)
            self.assertEqual(desk.say(line), f"no {word}")


if __name__ == "__main__":
    unittest.main()
