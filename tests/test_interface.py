"""The whole interface: what stands in which file, and all of it handed in by name in either order."""

import importlib
import inspect
import unittest

from rungfields.fields import Field
from rungfields.guests import Guest
from rungfields.leadings import Leading
from rungfields.tongue import read
from rungfields.towers import Tower
from rungfields.whole import paper
from rungfields.works import Works

TOWER = Tower(prime=3)
FIELD = Field((1, 0, 1), prime=3)
GUEST = Guest(TOWER, (2, 1, 1))
TURN = Leading(FIELD, FIELD, (0, 2))


def works():
    told = Works(prime=3)
    told.bring("f", (1, 0, 1))
    told.put("a", 2, (1, 2))
    return told


# file, name, what is handed in by place or by name, what by name alone
FUNCTIONS = [
    ("rests", "is_prime", {"number": 7}, {}),
    ("rests", "undone", {"number": 2}, {"prime": 3}),
    ("rests", "powered", {"number": 2, "exponent": -3}, {"prime": 5}),
    ("polys", "poly_plus", {"one": (1, 2), "other": (0, 0, 1)}, {"prime": 3}),
    ("polys", "poly_minus", {"one": (1, 2), "other": (0, 0, 1)}, {"prime": 3}),
    ("polys", "poly_times", {"one": (1, 2), "other": (0, 0, 1)}, {"prime": 3}),
    ("polys", "poly_parted", {"one": (1, 2, 1), "other": (0, 1)}, {"prime": 3}),
    ("polys", "poly_common", {"one": (1, 2, 1), "other": (1, 1)}, {"prime": 3}),
    ("polys", "poly_value", {"one": (1, 2), "number": 2}, {"prime": 3}),
    ("polys", "poly_put", {"one": (1, 2), "other": (0, 0, 1), "rule": (2, 1, 1)}, {"prime": 3}),
    ("polys", "poly_left", {"one": (1, 2), "exponent": 5, "rule": (2, 1, 1)}, {"prime": 3}),
    ("polys", "poly_slope", {"one": (1, 2, 1)}, {"prime": 3}),
    ("polys", "poly_text", {"one": (1, 2)}, {"prime": 3}),
    ("polys", "read_poly", {"text": "1 + 2x"}, {"prime": 3}),
    ("grid", "stepped", {"rows": [(1, 2), (2, 2)], "width": 2}, {"prime": 3}),
    ("grid", "kernel", {"rows": [(1, 2)], "width": 2}, {"prime": 3}),
    ("grid", "solved", {"rows": [(1, 2), (0, 1)], "wanted": (1, 1), "width": 2}, {"prime": 3}),
    ("parting", "parts", {"poly": (0, 1, 2)}, {"prime": 3}),
    ("parting", "rest_roots", {"poly": (0, 1, 2)}, {"prime": 3}),
    ("whole", "is_whole", {"poly": (1, 0, 1)}, {"prime": 3}),
    ("whole", "paper", {"poly": (1, 0, 1)}, {"prime": 3}),
    ("whole", "paper_holds", {"poly": (1, 0, 1), "told": paper((1, 0, 1), prime=3)}, {"prime": 3}),
    ("whole", "least_whole", {"degree": 4}, {"prime": 3}),
    ("fields", "Field", {"rule": (1, 0, 1)}, {"prime": 3}),
    ("over", "over_plus", {"field": FIELD, "one": ((1, 1),), "other": [(1, 0), (0, 1)]}, {}),
    ("over", "over_times", {"field": FIELD, "one": ((1, 1),), "other": [(1, 0), (0, 1)]}, {}),
    ("over", "over_parted", {"field": FIELD, "one": ((1, 1),), "other": [(1, 0), (0, 1)]}, {}),
    ("over", "over_common", {"field": FIELD, "one": ((1, 1),), "other": [(1, 0), (0, 1)]}, {}),
    ("over", "over_value", {"field": FIELD, "one": ((1, 1), (0, 1)), "number": (2, 1)}, {}),
    ("over", "built", {"field": FIELD, "roots": [(1, 1), (0, 1)]}, {}),
    ("roots", "root", {"field": FIELD, "poly": (2, 1, 1)}, {}),
    ("roots", "roots", {"field": FIELD, "poly": (2, 1, 1)}, {}),
    ("leadings", "Leading", {"low": FIELD, "high": FIELD, "image": (0, 2)}, {}),
    ("towers", "Tower", {}, {"prime": 7}),
    ("guests", "meeting", {"one": GUEST, "other": Guest(TOWER, (2, 1, 0, 0, 1))}, {}),
    ("guests", "Guest", {"tower": TOWER, "rule": (2, 1, 1)}, {}),
    ("sums", "turned_sum", {"field": FIELD, "weights": [(1, 1), (0, 1)], "number": (2, 1)}, {}),
    ("sums", "answers", {"field": FIELD, "weights": [(1, 1), (0, 1)], "wanted": (2, 1)}, {}),
    ("sums", "differs", {"field": FIELD, "number": (2, 1)}, {}),
    ("sums", "shares", {"field": FIELD, "number": (2, 1)}, {}),
    ("normals", "is_normal", {"field": FIELD, "number": (2, 1)}, {}),
    ("normals", "least_normal", {"field": FIELD}, {}),
    ("normals", "written_by", {"field": FIELD, "number": (1, 1), "wanted": (2, 1)}, {}),
    ("normals", "mirror", {"field": FIELD, "numbers": [(1, 0), (0, 1)]}, {}),
    ("tongue", "read", {"text": "a + b"}, {}),
    ("tongue", "write", {"tree": read("a + b")}, {}),
    ("works", "Works", {}, {"prime": 7}),
    ("pages", "page", {"works": works()}, {}),
    ("pages", "read_page", {"text": "prime 3\nput a 1 2\n"}, {}),
]
# what has the method, its name, what is handed in by place or by name, what by name alone
METHODS = [
    *[(lambda: FIELD, name, {}, {}) for name in ("rule", "prime", "size", "__len__", "__repr__", "__str__")],
    (lambda: FIELD, "plain", {"rest": 2}, {}),
    *[(lambda: FIELD, name, {"one": (1, 2), "other": (0, 1)}, {}) for name in ("plus", "minus", "times")],
    *[(lambda: FIELD, name, {"number": (1, 2)}, {}) for name in ("undone", "degree", "least", "trace", "norm", "place")],
    (lambda: FIELD, "power", {"number": (1, 2), "exponent": -5}, {}),
    (lambda: FIELD, "turned", {"number": (1, 2)}, {"steps": -1}),
    (lambda: FIELD, "turned", {"number": (1, 2)}, {}),
    (lambda: FIELD, "nth", {"at": 5}, {}),
    *[(lambda: TURN, name, {}, {}) for name in ("low", "high", "image", "__len__", "__repr__")],
    *[(lambda: TURN, name, {"number": (1, 2)}, {}) for name in ("to", "back", "holds")],
    (lambda: TURN, "then", {"other": TURN}, {}),
    *[(lambda: TOWER, name, {}, {}) for name in ("prime", "__repr__")],
    (lambda: TOWER, "own", {"degree": 4}, {}),
    (lambda: TOWER, "lead", {"low": 2, "high": 4}, {}),
    *[
        (lambda: TOWER, name, {"number": (2, (1, 2))}, {})
        for name in ("home", "undone", "turned", "trace", "norm", "least")
    ],
    (lambda: TOWER, "raised", {"number": (2, (1, 2)), "degree": 4}, {}),
    *[
        (lambda: TOWER, name, {"one": (2, (1, 2)), "other": (3, (0, 1, 1))}, {})
        for name in ("alike", "plus", "minus", "times", "over")
    ],
    (lambda: TOWER, "power", {"number": (2, (1, 2)), "exponent": -5}, {}),
    (lambda: TOWER, "turned", {"number": (2, (1, 2))}, {"steps": 3}),
    (lambda: TOWER, "trace", {"number": (4, (1, 2, 0, 1))}, {"low": 2}),
    (lambda: TOWER, "norm", {"number": (4, (1, 2, 0, 1))}, {"low": 2}),
    (lambda: TOWER, "splits", {"poly": (1, 0, 1)}, {}),
    (lambda: TOWER, "roots", {"poly": (1, 0, 1)}, {}),
    (lambda: TOWER, "parts", {"poly": (1, 0, 1), "degree": 2}, {}),
    *[(lambda: GUEST, name, {}, {}) for name in ("tower", "field", "lead", "__len__", "__repr__")],
    (lambda: GUEST, "inward", {"number": (1, 2)}, {}),
    (lambda: GUEST, "outward", {"number": (2, (1, 2))}, {}),
    (works, "bring", {"name": "g", "rule": (0, 1)}, {}),
    (works, "leave", {"name": "f"}, {}),
    (works, "put", {"name": "b", "field": "f", "rests": [1, 1]}, {}),
    (works, "fix", {"name": "a", "field": 1, "rests": (1,)}, {}),
    (works, "lay", {"name": "b", "text": "a + 1"}, {}),
    (works, "change", {"name": "a", "text": "2"}, {}),
    (works, "drop", {"name": "a"}, {}),
    (works, "do", {"deed": ("drop", "a")}, {}),
    (works, "many", {"deeds": [("drop", "a")]}, {}),
    (works, "trial", {"deeds": [("put", "b", 1, (1,))]}, {}),
    *[
        (works, name, {}, {})
        for name in (
            "undo", "twin", "deeds", "depth", "prime", "tower", "names", "guests", "worths", "__len__", "__repr__",
        )
    ],
    *[(works, name, {"name": "a"}, {}) for name in ("formula", "worth", "leans")],
    (works, "guest", {"name": "f"}, {}),
    (works, "seen", {"name": "a", "guest": "f"}, {}),
]
CLASSES = {"fields": "Field", "leadings": "Leading", "towers": "Tower", "guests": "Guest", "works": "Works", "desk": "Desk"}
FILES = (
    "errors", "rests", "polys", "grid", "parting", "whole", "fields", "over", "roots", "leadings", "towers", "guests", "sums",
    "normals", "tongue", "works", "pages", "desk",
)


def turned_about(told):
    return dict(reversed(list(told.items())))


class Interface(unittest.TestCase):
    def test_files(self):
        for name in FILES:
            self.assertEqual(importlib.import_module(f"rungfields.{name}").__name__, f"rungfields.{name}")

    def test_functions_by_place_and_by_name_in_either_order(self):
        for file, name, told, named in FUNCTIONS:
            action = getattr(importlib.import_module(f"rungfields.{file}"), name)
            self.assertEqual(action.__module__, f"rungfields.{file}")
            known = action(*told.values(), **named)
            self.assertEqual(action(**told, **named), known)
            self.assertEqual(action(**turned_about({**told, **named})), known)
            self.check(action, told, named)

    def check(self, action, told, named):
        """The parameters are just those that are told, and some of them go by name alone."""
        kinds = inspect.signature(action).parameters
        for name in told:
            self.assertEqual(kinds[name].kind, inspect.Parameter.POSITIONAL_OR_KEYWORD)
            self.assertIs(kinds[name].default, inspect.Parameter.empty)
        for name in named:
            self.assertEqual(kinds[name].kind, inspect.Parameter.KEYWORD_ONLY)
            self.assertEqual(kinds[name].default, {"prime": 2, "steps": 1, "low": 1}[name])
            self.assertEqual(list(kinds), [*told, *named])

    def test_methods_by_place_and_by_name_in_either_order(self):
        for maker, name, told, named in METHODS:
            ends = []
            for more in ({}, told, turned_about(told)):
                thing = maker()
                self.assertIn(name, vars(type(thing)))
                action = getattr(thing, name)
                self.check(action, told, named)
                answer = action(**more, **named) if more else action(*told.values(), **named)
                ends.append((answer, repr(thing), thing.worths() if isinstance(thing, Works) else None))
            self.assertEqual(ends[0], ends[1])
            self.assertEqual(ends[0], ends[2])

    def test_classes_with_all_their_methods(self):
        told = {}
        for maker, name, _, _ in METHODS:
            told.setdefault(type(maker()).__name__, set()).add(name)
        told["Desk"] = {"works", "say"}
        told["Works"].add("redo")
        for file, name in CLASSES.items():
            kind = getattr(importlib.import_module(f"rungfields.{file}"), name)
            own = {method for method, thing in vars(kind).items() if inspect.isfunction(thing) and method[0] != "_"}
            self.assertEqual(own, {method for method in told[name] if method[0] != "_"})
            self.assertEqual(kind.__module__, f"rungfields.{file}")


if __name__ == "__main__":
    unittest.main()
