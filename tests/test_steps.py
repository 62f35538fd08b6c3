"""rungfields.works, steps: promises [2] and [25]."""

import copy
import unittest

from rungfields.errors import BadDeed, NothingLeft, Stopped
from rungfields.works import Works

RULE = (2, 0, 1)
DEEDS = [
    ("bring", "f", RULE), ("put", "a", 2, (1, 4)), ("put", "b", "f", (0, 1)), ("lay", "s", "a * b"), ("fix", "a", 1, (2,)),
    ("lay", "t", "s + 1"), ("change", "s", "b / a"), ("leave", "f"), ("drop", "t"), ("bring", "g", (0, 1)),
]
NO_DEEDS = [
    (), ("put",), ("put", "x"), ("put", "x", 1), ("put", "x", 1, (1,), 0), ("fix", "a", 1), ("fix", "a", 1, (1,), 1),
    ("bring",), ("bring", "x"), ("bring", "x", RULE, 5), ("leave",), ("leave", "f", 1), ("lay", "x"), ("lay", "x", "a", "b"),
    ("change", "s"), ("change", "s", "a", "a"), ("drop",), ("drop", "s", "s"), ("many", []), ("many", ()), ("many",),
    ("many", [("drop", "s")]), ("undo",), ("redo",), ("Put", "x", 1, (1,)), ("worth", "a"), ("twin",), ("", "x"), ("do", ()),
    ("trial", []), ("deeds",), ("put ", "x", 1, (1,)), ["drop", "s"], [], "drop", None,
]


def seen(works):
    """All that can be asked of works but their steps."""
    return (
        works.names(), works.guests(), works.worths(), len(works), repr(works), [works.formula(name) for name in works.names()],
        [works.guest(name).field() for name in works.guests()],
    )


def state(works):
    return seen(works), works.deeds(), works.depth()


def done(deeds=DEEDS):
    works = Works(prime=5)
    for deed in deeds:
        works.do(deed)
    return works


class Case(unittest.TestCase):
    def refused(self, works, error, action, *told, **fields):
        known = state(works)
        with self.assertRaises(error, msg=f"{told}") as caught:
            action(*told)
        self.assertEqual(caught.exception.word, error.__name__)
        for name, value in fields.items():
            self.assertEqual(getattr(caught.exception, name), value)
        self.assertEqual(state(works), known)


class Do(Case):
    def test_by_tuples_as_by_methods(self):
        one, other = Works(prime=5), Works(prime=5)
        for deed in DEEDS:
            self.assertIsNone(one.do(deed))
            self.assertIsNone(getattr(other, deed[0])(*deed[1:]))
            self.assertEqual(state(one), state(other))

    def test_bad_deed(self):
        works = done(DEEDS[:4])
        for deed in NO_DEEDS:
            self.refused(works, BadDeed, works.do, deed)

    def test_each_deed_is_one_step(self):
        works = Works(prime=5)
        for at, deed in enumerate(DEEDS):
            self.assertEqual(works.depth(), (at, 0))
            works.do(deed)
            self.assertEqual(works.deeds(), DEEDS[:at + 1])
        works.fix("b", 1, (1,))
        works.fix("b", 1, (1,))
        self.assertEqual(works.depth(), (12, 0))

    def test_deeds_as_they_were_handed_in_with_tuples_for_lists(self):
        works = Works(prime=5)
        works.put("a", 4, [3, 0, 0, 0])
        works.lay("s", " (a) +1 ")
        works.do(("fix", "a", 1, [2]))
        works.many([("put", "b", 2, [1, 1]), ("drop", "b")])
        told = [
            ("put", "a", 4, (3, 0, 0, 0)), ("lay", "s", " (a) +1 "), ("fix", "a", 1, (2,)),
            ("many", (("put", "b", 2, (1, 1)), ("drop", "b"))),
        ]
        self.assertEqual(works.deeds(), told)
        self.assertEqual(works.undo(), told[3])
        self.assertEqual(works.undo(), told[2])
        self.assertEqual(works.redo(), told[2])
        self.assertIs(type(works.deeds()), list)


class Many(Case):
    def test_one_step(self):
        one, other = done(), Works(prime=5)
        self.assertIsNone(other.many(DEEDS))
        self.assertEqual(seen(one), seen(other))
        self.assertEqual(other.deeds(), [("many", tuple(DEEDS))])
        self.assertEqual(other.depth(), (1, 0))
        self.assertEqual(other.undo(), ("many", tuple(DEEDS)))
        self.assertEqual(seen(other), seen(Works(prime=5)))
        self.assertEqual(other.redo(), ("many", tuple(DEEDS)))
        self.assertEqual(seen(other), seen(one))

    def test_of_none(self):
        for none in ([], ()):
            works = done(DEEDS[:3])
            known = seen(works)
            works.undo()
            works.redo()
            works.undo()
            self.assertIsNone(works.many(none))
            self.assertEqual((works.depth(), works.deeds()[-1]), ((3, 0), ("many", ())))
            self.assertEqual(works.undo(), ("many", ()))
            self.assertEqual(works.redo(), ("many", ()))
            self.assertNotEqual(seen(works), known)

    def test_stopped_and_none_done(self):
        works = done(DEEDS[:4])
        for deeds, at, kind in (
            ([("drop", "a")], 0, "Used"), ([("drop", "s"), ("drop", "a"), ("drop", "a")], 2, "NoName"),
            ([("put", "x", 1, (1,)), ("lay", "y", "x +")], 1, "BadText"), ([("put", "X", 1, (1,))], 0, "BadName"),
            ([("put", "x", 1, (1,))] * 2, 1, "Taken"), ([("put", "x", 0, (1,))], 0, "BadDegree"),
            ([("leave", "f"), ("put", "x", "f", (1, 1))], 1, "NoGuest"), ([("put", "x", 1, (7,))], 0, "BadNumber"),
            ([("put", name, 1, (1,)) for name in "hijklmnopq"], 7, "Full"), ([("change", "a", "s")], 0, "Ring"),
            ([("lay", "x", "1 / 0")], 0, "NoInverse"), ([("bring", "g", (1, 0))], 0, "BadPoly"),
            ([("bring", "g", (1, 2))], 0, "BadRule"), ([("bring", "g", (1, 0, 1))], 0, "NotWhole"),
            ([("lay", "x", "1 / b"), ("fix", "b", 1, (0,))], 1, "Held"), ([("leave", "h")], 0, "NoGuest"),
            ([("put", "x", 3, (0, 1, 0)), ("put", "y", 5, (0, 1, 0, 0, 0)), ("lay", "z", "x - y")], 2, "TooTall"),
        ):
            for told in (deeds, tuple(deeds)):
                self.refused(works, Stopped, works.many, told, at=at, kind=kind)
                self.refused(works, Stopped, works.trial, told, at=at, kind=kind)

    def test_bad_deeds_within_many(self):
        works = done(DEEDS[:4])
        for deed in NO_DEEDS:
            self.refused(works, Stopped, works.many, [deed], at=0, kind="BadDeed")
            self.refused(works, Stopped, works.many, [("drop", "s"), deed], at=1, kind="BadDeed")
            self.refused(works, Stopped, works.trial, [("drop", "s"), ("drop", "a"), deed], at=2, kind="BadDeed")

    def test_many_within_many(self):
        works = done(DEEDS[:4])
        for deed in (("many", []), ("many", ()), ("many", [("drop", "s")])):
            self.refused(works, Stopped, works.many, [deed], at=0, kind="BadDeed")
            self.refused(works, BadDeed, works.do, deed)


class Trial(Case):
    def test_worths_behind_deeds_and_all_as_it_was(self):
        for count in range(len(DEEDS)):
            works = done(DEEDS[:count])
            works.many([])
            works.undo()
            known = state(works)
            told = works.trial(DEEDS[count:])
            self.assertEqual(told, done().worths())
            self.assertIs(type(told), list)
            self.assertEqual(state(works), known)
            self.assertEqual(works.trial(()), works.worths())


class UndoRedo(Case):
    def test_all_the_way_back_and_on(self):
        works = Works(prime=5)
        states = [seen(works)]
        for deed in DEEDS:
            works.do(deed)
            states.append(seen(works))
        for at in reversed(range(len(DEEDS))):
            self.assertEqual(works.undo(), DEEDS[at])
            self.assertEqual(seen(works), states[at])
            self.assertEqual(works.deeds(), DEEDS[:at])
            self.assertEqual(works.depth(), (at, len(DEEDS) - at))
        self.refused(works, NothingLeft, works.undo)
        for at, deed in enumerate(DEEDS):
            self.assertEqual(works.redo(), deed)
            self.assertEqual(seen(works), states[at + 1])
            self.assertEqual(works.depth(), (at + 1, len(DEEDS) - at - 1))
        self.refused(works, NothingLeft, works.redo)

    def test_nothing_left(self):
        works = Works()
        self.refused(works, NothingLeft, works.undo)
        self.refused(works, NothingLeft, works.redo)
        works = done()
        self.refused(works, NothingLeft, works.redo)

    def test_a_step_ends_what_could_be_done_again(self):
        works = done()
        for _ in range(4):
            works.undo()
        self.assertEqual(works.depth(), (6, 4))
        works.put("x", 1, (1,))
        self.assertEqual(works.depth(), (7, 0))
        self.refused(works, NothingLeft, works.redo)
        self.assertEqual(works.undo(), ("put", "x", 1, (1,)))
        self.assertEqual(works.depth(), (6, 1))

    def test_what_is_refused_does_not_end_it(self):
        works = done()
        works.undo()
        self.refused(works, BadDeed, works.do, ())
        self.refused(works, Stopped, works.many, [()], at=0, kind="BadDeed")
        works.trial([("put", "x", 1, (1,))])
        self.assertEqual(works.depth(), (9, 1))
        self.assertEqual(works.redo(), DEEDS[-1])

    def test_worths_of_changed_things_come_back(self):
        works = done(DEEDS[:4])
        worth = works.worth("s")
        works.fix("a", 1, (3,))
        self.assertNotEqual(works.worth("s"), worth)
        works.undo()
        self.assertEqual(works.worth("s"), worth)


class Twin(Case):
    def test_all_of_it(self):
        works = done()
        works.undo()
        works.undo()
        twin = works.twin()
        self.assertIsInstance(twin, Works)
        self.assertTrue(twin == works)
        self.assertEqual(state(twin), state(works))
        self.assertEqual(twin.tower(), works.tower())
        self.assertEqual([twin.redo(), twin.redo()], DEEDS[-2:])
        self.assertEqual(state(twin), state(done()))

    def test_each_goes_its_own_way(self):
        works = done()
        works.undo()
        known = state(works)
        twin = works.twin()
        twin.redo()
        twin.put("x", 1, (1,))
        twin.leave("g")
        twin.many([])
        self.assertEqual(state(works), known)
        known = state(twin)
        works.undo()
        works.put("y", 1, (1,))
        works.bring("h", RULE)
        self.assertEqual(state(twin), known)
        while twin.depth()[0]:
            twin.undo()
        self.assertEqual(seen(twin), seen(Works(prime=5)))
        self.assertEqual(works.names(), ["a", "b", "s", "t", "y"])


class Spoilt(Case):
    def test_lists_handed_in(self):
        works = Works(prime=5)
        rests, inner = [1, 4], [2, 2]
        works.put("a", 2, rests)
        deeds = [("put", "b", 2, inner), ("lay", "s", "a + b")]
        held = copy.deepcopy(deeds)
        works.many(deeds)
        self.assertEqual((deeds, rests), (held, [1, 4]))
        known = state(works)
        rests[0] = 3
        inner.clear()
        deeds.append(("drop", "s"))
        del deeds[0]
        self.assertEqual(state(works), known)
        self.assertEqual(works.undo(), ("many", (("put", "b", 2, (2, 2)), ("lay", "s", "a + b"))))
        works.redo()
        self.assertEqual(state(works), known)

    def test_lists_told(self):
        works = done()
        known = state(works)
        for told in (works.names(), works.guests(), works.worths(), works.deeds(), works.leans("s"), works.trial([])):
            told.append("spoilt")
            told.reverse()
        self.assertEqual(state(works), known)


if __name__ == "__main__":
    unittest.main()
