"""The errors: their parameters, attributes, codes and places under each other."""

import unittest

from numbertypes import errors
from samples import ANY_VALUES, same

UNDER_RING_ERROR = {
    "InvalidNumber": ["given"], "InvalidThing": ["given"], "InvalidRing": ["given"], "InvalidTable": ["rule"],
    "InvalidName": ["given"], "InvalidTerm": ["at"], "InvalidHead": ["part"], "InvalidStep": ["procedure", "at"],
    "InvalidText": ["line"], "InvalidLine": ["at"], "InvalidProduct": ["at"], "InvalidOrder": ["given"],
    "InvalidCommand": ["at"], "DegreeTooHigh": ["at"], "NoInverse": ["number"], "NotCommuting": [],
    "NotWhole": ["at"], "NotStraight": ["at"], "NoUnit": ["at"], "Unused": ["name"], "WrongCount": ["given"],
    "TooMany": ["most"], "TooGreat": ["most"], "EmptyRealm": [], "Unsound": ["number"], "DuplicateName": ["name"],
    "InUse": ["number"], "Broken": ["number"], "Full": ["most"],
}
UNDER_MISSING = {"UnknownName": ["name"], "UnknownNumber": ["number"]}
UNDER_INDEX_ERROR = {"NothingLeft": []}
ALL = {**UNDER_RING_ERROR, **UNDER_MISSING, **UNDER_INDEX_ERROR}


class ErrorsTest(unittest.TestCase):
    def test_direct_base_classes(self):
        self.assertEqual(errors.RingError.__bases__, (ValueError,))
        self.assertEqual(errors.Missing.__bases__, (LookupError,))
        for names, base in (
            (UNDER_RING_ERROR, errors.RingError), (UNDER_MISSING, errors.Missing), (UNDER_INDEX_ERROR, IndexError)
        ):
            for name in names:
                self.assertEqual(getattr(errors, name).__bases__, (base,), name)

    def test_no_error_is_under_another_one(self):
        for name in ALL:
            for other in list(ALL) + ["RingError", "Missing"]:
                expected = other == name
                expected = expected or (other == "RingError" and name in UNDER_RING_ERROR)
                expected = expected or (other == "Missing" and name in UNDER_MISSING)
                self.assertEqual(issubclass(getattr(errors, name), getattr(errors, other)), expected, (name, other))
        self.assertFalse(issubclass(errors.RingError, errors.Missing))
        self.assertFalse(issubclass(errors.Missing, errors.RingError))

    def test_values_by_position(self):
        for name, parameters in ALL.items():
            for value in ANY_VALUES:
                given = [value, ("other", value)][: len(parameters)]
                error = getattr(errors, name)(*given)
                for parameter, expected in zip(parameters, given):
                    self.assertTrue(same(getattr(error, parameter), expected), name)
                self.assertEqual(error.code, name)

    def test_values_by_name(self):
        for name, parameters in ALL.items():
            for value in ANY_VALUES:
                given = dict(zip(parameters, [value, ["other", value]]))
                error = getattr(errors, name)(**given)
                for parameter, expected in given.items():
                    self.assertTrue(same(getattr(error, parameter), expected), name)
                self.assertEqual(error.code, name)

    def test_wrong_number_of_values(self):
        for name, parameters in ALL.items():
            with self.assertRaises(TypeError):
                getattr(errors, name)(*([1] * (len(parameters) + 1)))
            if parameters:
                with self.assertRaises(TypeError):
                    getattr(errors, name)(*([1] * (len(parameters) - 1)))

    def test_caught_by_the_classes_of_python(self):
        for name, parameters in ALL.items():
            base = ValueError if name in UNDER_RING_ERROR else LookupError
            with self.assertRaises(base) as caught:
                raise getattr(errors, name)(*([1] * len(parameters)))
            self.assertEqual(caught.exception.code, name)
            self.assertEqual(isinstance(caught.exception, IndexError), name == "NothingLeft")


if __name__ == "__main__":
    unittest.main()
