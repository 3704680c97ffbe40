import inspect
import unittest

from fourfaces import errors
from fourfaces.errors import FaceError

FIELDS = {
    "Wrong": ["place"], "Twice": ["name"], "NoCell": ["name"], "NoAsk": ["name"], "NoStep": ["name"],
    "NoOutcome": ["outcome"], "NoFact": ["fact"], "NoRow": ["path"], "Unknown": ["address"],
    "NoProcedure": ["name"], "Ring": ["name"], "NoTrace": ["at"], "TooMany": ["most"], "NoTree": ["crossing"],
    "Unlike": [], "NoTable": ["lack"], "NoRun": [], "Over": [], "NoText": ["line"], "NoEntry": ["many"],
    "Nothing": [], "BadDeed": [], "Refused": ["deed"], "NoCommand": [], "NoPiece": ["piece"],
    "Crosses": ["address"], "NoCall": ["address"],
}


class Errors(unittest.TestCase):
    def test_face_error_is_a_value_error(self):
        self.assertEqual(FaceError.__bases__, (ValueError,))

    def test_each_class_is_a_direct_subclass(self):
        for name in FIELDS:
            with self.subTest(name):
                self.assertEqual(getattr(errors, name).__bases__, (FaceError,))

    def test_each_class_is_defined_in_the_file(self):
        for name in list(FIELDS) + ["FaceError"]:
            self.assertEqual(getattr(errors, name).__module__, "fourfaces.errors")

    def test_there_are_no_other_errors(self):
        there = [name for name, thing in vars(errors).items() if inspect.isclass(thing)]
        self.assertEqual(sorted(there), sorted(list(FIELDS) + ["FaceError"]))

    def test_fields_have_the_names_of_the_signature(self):
        for name, fields in FIELDS.items():
            with self.subTest(name):
                self.assertEqual(list(inspect.signature(getattr(errors, name)).parameters), fields)

    def test_fields_keep_the_objects_themselves(self):
        for name, fields in FIELDS.items():
            for thing in [None, 0, True, "a", [1, [2]], {"a": []}, ("", (0,)), 10 ** 59, object()]:
                error = getattr(errors, name)(*[thing for _ in fields])
                for field in fields:
                    self.assertIs(getattr(error, field), thing)

    def test_they_can_be_raised_and_caught_as_face_errors_and_value_errors(self):
        for name, fields in FIELDS.items():
            for kind in (FaceError, ValueError, getattr(errors, name)):
                with self.assertRaises(kind):
                    raise getattr(errors, name)(*["a" for _ in fields])

    def test_they_are_not_caught_as_one_another(self):
        for name, fields in FIELDS.items():
            error = getattr(errors, name)(*["a" for _ in fields])
            others = tuple(getattr(errors, other) for other in FIELDS if other != name)
            self.assertNotIsInstance(error, others)

    def test_too_few_and_too_many_arguments_are_not_taken(self):
        for name, fields in FIELDS.items():
            with self.assertRaises(TypeError):
                getattr(errors, name)(*["a" for _ in fields], "b")
            if fields:
                with self.assertRaises(TypeError):
                    getattr(errors, name)()


if __name__ == "__main__":
    unittest.main()
