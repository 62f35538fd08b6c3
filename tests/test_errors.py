"""The classes of rungfields.errors: bases, words and fields."""

import copy
import inspect
import unittest

from rungfields import errors

UNDER_ERROR = {
    "BadPrime": {},
    "BadRest": {},
    "BadPoly": {},
    "BadWidth": {},
    "BadTable": {"at": 3},
    "BadRule": {},
    "NotWhole": {"part": (1, 1)},
    "BadDegree": {},
    "BadNumber": {},
    "NoInverse": {},
    "NotWithin": {},
    "NoLeading": {},
    "Unfit": {},
    "Outside": {},
    "TooTall": {"tall": 20},
    "BadText": {"at": 0},
    "BadName": {},
    "Taken": {},
    "Full": {},
    "Ring": {},
    "Used": {"by": "sum"},
    "Held": {"by": "sum"},
    "BadDeed": {},
    "BadPage": {"row": 2},
    "Stopped": {"at": 1, "kind": "BadRest"},
}
UNDER_MISSING = {
    "NoGuest": {"name": "f"},
    "NoName": {"name": "a"},
    "NothingLeft": {},
}


def kinds():
    for name, fields in UNDER_ERROR.items():
        yield errors.RungError, name, fields
    for name, fields in UNDER_MISSING.items():
        yield errors.RungMissing, name, fields


class Bases(unittest.TestCase):
    def test_the_two_bases(self):
        self.assertEqual(errors.RungError.__bases__, (ValueError,))
        self.assertEqual(errors.RungMissing.__bases__, (LookupError,))

    def test_the_two_bases_without_arguments(self):
        self.assertEqual(errors.RungError().word, "RungError")
        self.assertEqual(errors.RungMissing().word, "RungMissing")

    def test_the_two_bases_raised_with_words(self):
        with self.assertRaisesRegex(ValueError, "why") as caught:
            raise errors.RungError("why")
        self.assertEqual(caught.exception.word, "RungError")
        with self.assertRaisesRegex(LookupError, "why") as caught:
            raise errors.RungMissing("why")
        self.assertEqual(caught.exception.word, "RungMissing")

    def test_each_stands_directly_under_its_base(self):
        for base, name, _ in kinds():
            with self.subTest(name=name):
                self.assertEqual(getattr(errors, name).__bases__, (base,))

    def test_there_are_no_other_classes(self):
        told = {name for name, thing in vars(errors).items() if inspect.isclass(thing)}
        self.assertEqual(told, {"RungError", "RungMissing", *UNDER_ERROR, *UNDER_MISSING})

    def test_each_is_defined_here(self):
        for _, name, _ in kinds():
            self.assertEqual(getattr(errors, name).__module__, "rungfields.errors")


class Fields(unittest.TestCase):
    def check(self, error, name, fields):
        self.assertEqual(vars(error), {"word": name, **fields})

    def test_fields_handed_in_by_place(self):
        for _, name, fields in kinds():
            with self.subTest(name=name):
                self.check(getattr(errors, name)(*fields.values()), name, fields)

    def test_fields_handed_in_by_name(self):
        for _, name, fields in kinds():
            with self.subTest(name=name):
                self.check(getattr(errors, name)(**fields), name, fields)

    def test_fields_may_not_be_left_out(self):
        for _, name, fields in kinds():
            if fields:
                with self.subTest(name=name), self.assertRaises(TypeError):
                    getattr(errors, name)()

    def test_each_is_caught_by_its_base(self):
        for base, name, fields in kinds():
            with self.subTest(name=name):
                with self.assertRaises(base) as caught:
                    raise getattr(errors, name)(*fields.values())
                self.check(caught.exception, name, fields)

    def test_errors_and_missing_things_are_not_under_each_other(self):
        for base, name, fields in kinds():
            error = getattr(errors, name)(*fields.values())
            self.assertEqual(isinstance(error, ValueError), base is errors.RungError)
            self.assertEqual(isinstance(error, LookupError), base is errors.RungMissing)

    def test_a_copy_has_the_same_fields(self):
        for _, name, fields in kinds():
            with self.subTest(name=name):
                self.check(copy.copy(getattr(errors, name)(*fields.values())), name, fields)


if __name__ == "__main__":
    unittest.main()
