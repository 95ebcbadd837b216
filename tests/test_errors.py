import unittest

from tailranks import errors
from tests.samples import STRANGE

TAIL_ERRORS = {
    "NoWords": (),
    "NotAlike": ("index",),
    "NoProperty": ("name",),
    "BadWish": ("value",),
    "BadWord": ("error",),
    "BadLetter": ("value",),
    "TooLong": ("limit",),
    "LastLetter": (),
    "NotSimple": ("place",),
    "TooManyEdits": (),
    "NothingToUndo": (),
    "BadEdits": (),
    "BadEdit": ("index",),
    "Rejected": ("index",),
    "Busy": (),
    "BadText": ("index",),
}
LOOKUP_ERRORS = {
    "NoPlace": ("value",),
    "NoIndex": ("value",),
    "NoVersion": ("value",),
}
ALL_ERRORS = {**TAIL_ERRORS, **LOOKUP_ERRORS}


class ErrorsTest(unittest.TestCase):
    def test_fields_are_the_passed_objects(self):
        for name, fields in ALL_ERRORS.items():
            for value in STRANGE + ([1, [2]], (3, {"a": []}), object()):
                with self.subTest(name=name, value=value):
                    passed = [value for field in fields]
                    error = getattr(errors, name)(*passed)
                    for field in fields:
                        self.assertIs(getattr(error, field), value)

    def test_other_numbers_of_fields_are_refused(self):
        for name, fields in ALL_ERRORS.items():
            if fields:
                with self.subTest(name=name), self.assertRaises(TypeError):
                    getattr(errors, name)()

    def test_tail_error(self):
        self.assertEqual(errors.TailError.__bases__, (ValueError,))
        self.assertIsInstance(errors.TailError(), ValueError)

    def test_bases(self):
        for name in TAIL_ERRORS:
            self.assertTrue(issubclass(getattr(errors, name), errors.TailError), name)
            self.assertFalse(issubclass(getattr(errors, name), LookupError), name)
        for name in LOOKUP_ERRORS:
            self.assertTrue(issubclass(getattr(errors, name), LookupError), name)
            self.assertFalse(issubclass(getattr(errors, name), ValueError), name)
            self.assertFalse(issubclass(getattr(errors, name), (KeyError, IndexError)), name)

    def test_no_class_derives_from_another_one(self):
        for name in ALL_ERRORS:
            for other in ALL_ERRORS:
                derives = issubclass(getattr(errors, name), getattr(errors, other))
                self.assertEqual(derives, name == other, (name, other))

    def test_raised_and_caught(self):
        for name, fields in ALL_ERRORS.items():
            kind = getattr(errors, name)
            self.assertEqual(kind.__name__, name)
            base = errors.TailError if name in TAIL_ERRORS else LookupError
            with self.assertRaises(base) as caught:
                raise kind(*[7 for field in fields])
            self.assertIs(type(caught.exception), kind)


if __name__ == "__main__":
    unittest.main()
