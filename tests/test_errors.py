import unittest

from otherhand import errors

WITH_PART = (
    "BadWeb BadBody BadLot BadRow BadPicture BadNames BadMixture BadWork BadSaying BadWindow"
    " BadFrame BadNumber BadPaper BadDesk Misfit"
).split()
BELOW_MISSING = ["NoPiece", "NoMark", "NoTie", "NoName"]
FIELDS = {name: ["part"] for name in WITH_PART}
FIELDS.update({name: ["value"] for name in BELOW_MISSING})
FIELDS.update({
    "Missing": ["value"],
    "Twice": ["value"],
    "Impossible": ["paper"],
    "TooMany": ["what", "most"],
    "Nothing": [],
    "BadText": ["line", "item"],
    "BadLine": ["line", "error"],
})
VALUES = [None, True, "kinds", "", 3, 10 ** 6000, [1, [2]], (1, 2), {"a": []}, object()]


class TestErrors(unittest.TestCase):
    def test_all_are_there(self):
        found = {
            name for name, value in vars(errors).items()
            if isinstance(value, type) and name != "HandError"
        }
        self.assertEqual(found, set(FIELDS))

    def test_made_by_place_and_by_name(self):
        for name, fields in FIELDS.items():
            made = getattr(errors, name)
            for value in VALUES:
                told = [value] + [object() for _ in fields[1:]]
                told = told[:len(fields)]
                for error in (made(*told), made(**dict(zip(fields, told)))):
                    self.assertEqual(list(vars(error)), fields)
                    for field, asked in zip(fields, told):
                        self.assertIs(getattr(error, field), asked)
                    self.assertIsInstance(error, errors.HandError)
                    self.assertIsInstance(error, ValueError)

    def test_fields_are_needed(self):
        for name, fields in FIELDS.items():
            if fields:
                self.assertRaises(TypeError, getattr(errors, name))
            self.assertRaises(TypeError, getattr(errors, name), *range(len(fields) + 1))

    def test_bases(self):
        self.assertEqual(errors.HandError.__bases__, (ValueError,))
        for name in FIELDS:
            made = getattr(errors, name)
            base = errors.Missing if name in BELOW_MISSING else errors.HandError
            self.assertEqual(made.__bases__, (base,), name)
        for name in FIELDS:
            for other in FIELDS:
                below = issubclass(getattr(errors, name), getattr(errors, other))
                asked = name == other or (other == "Missing" and name in BELOW_MISSING)
                self.assertEqual(below, asked, (name, other))
        for name in FIELDS:
            for python_error in (KeyError, IndexError, LookupError, TypeError, ArithmeticError):
                self.assertFalse(issubclass(getattr(errors, name), python_error))

    def test_they_can_be_raised_and_told(self):
        for name, fields in FIELDS.items():
            made = getattr(errors, name)
            with self.assertRaises(errors.HandError) as caught:
                raise made(*["x" for _ in fields])
            self.assertIsInstance(str(caught.exception), str)


if __name__ == "__main__":
    unittest.main()
