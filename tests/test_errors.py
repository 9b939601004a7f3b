"""Errors: their fields, and what each stands below."""

import unittest

from meettrees import errors

WITH_PART = (
    "BadNumber BadBlock BadRow BadPath BadValue BadTree BadDeed BadEvent BadHeard BadLot BadLetter BadMachine "
    "BadDisk BadWorld BadStep BadPaper Misfit"
).split()
FIELDS = {
    **{name: ("part",) for name in WITH_PART},
    **{name: ("value",) for name in ("Missing", "NoEvent", "NoChange", "NoMachine")},
    "Refused": ("why", "path"),
    "TooMany": ("what", "most"),
    "Full": (), "Off": (), "On": (), "Nothing": (),
    "BadText": ("line", "item"),
    "BadLine": ("line", "error"),
}
BELOW_MISSING = ("NoEvent", "NoChange", "NoMachine")
ANY_VALUES = ("part", 3, None, True, [1, [2]], (1, 2), {"a": []}, 1.5, ValueError("x"), object())


class ErrorTest(unittest.TestCase):
    def test_all_are_there(self):
        found = [
            name for name, value in vars(errors).items()
            if isinstance(value, type) and value.__module__ == "meettrees.errors"
        ]
        self.assertEqual(sorted(found), sorted([*FIELDS, "MeetError"]))

    def test_fields_by_place_and_by_name(self):
        for name, fields in FIELDS.items():
            for value in ANY_VALUES:
                values = [value, "second"][:len(fields)]
                by_place = getattr(errors, name)(*values)
                by_name = getattr(errors, name)(**dict(zip(fields, values)))
                for error in (by_place, by_name):
                    for field, kept in zip(fields, values):
                        self.assertIs(getattr(error, field), kept)

    def test_fields_are_needed(self):
        for name, fields in FIELDS.items():
            if fields:
                with self.assertRaises(TypeError):
                    getattr(errors, name)()
                with self.assertRaises(TypeError):
                    getattr(errors, name)(*[1] * (len(fields) + 1))

    def test_they_can_be_raised(self):
        for name, fields in FIELDS.items():
            kind = getattr(errors, name)
            for base in (kind, errors.MeetError, ValueError, Exception):
                with self.assertRaises(base):
                    raise kind(*fields)

    def test_what_each_is_below(self):
        self.assertEqual(errors.MeetError.__bases__, (ValueError,))
        for name in FIELDS:
            base = errors.Missing if name in BELOW_MISSING else errors.MeetError
            self.assertEqual(getattr(errors, name).__bases__, (base,), name)

    def test_what_each_is_not_below(self):
        kinds = [getattr(errors, name) for name in FIELDS]
        for one in kinds:
            for other in kinds:
                below = one is other or other is errors.Missing and one.__name__ in BELOW_MISSING
                self.assertEqual(issubclass(one, other), below)
            for python in (LookupError, KeyError, IndexError, TypeError, ArithmeticError, RuntimeError, OSError):
                self.assertFalse(issubclass(one, python))

    def test_wording_may_be_asked_for(self):
        for name, fields in FIELDS.items():
            error = getattr(errors, name)(*fields)
            self.assertIsInstance(str(error) + repr(error), str)


if __name__ == "__main__":
    unittest.main()
