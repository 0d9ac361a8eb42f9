import unittest

from elsewhere import errors

NAMES = [
    "InvalidText", "InvalidModel", "NotPlain", "UnknownLogic", "NotTold", "NoFit", "NotValid", "IsValid",
    "WrongFrame", "NoInterpolants", "HasVariables", "NotGuarded", "TooMany", "InvalidLine", "IllTyped", "IsNormal",
    "NoAxiom", "Inconsistent", "OtherLogic",
]


class Errors(unittest.TestCase):
    def test_the_base_is_a_value_error(self):
        self.assertEqual(errors.ElsewhereError.__bases__, (ValueError,))

    def test_each_error_is_directly_below_the_base(self):
        for name in NAMES:
            self.assertEqual(getattr(errors, name).__bases__, (errors.ElsewhereError,), name)

    def test_each_class_is_defined_here(self):
        for name in NAMES + ["ElsewhereError"]:
            self.assertEqual(getattr(errors, name).__module__, "elsewhere.errors", name)

    def test_there_are_no_other_errors(self):
        found = [name for name, value in vars(errors).items() if isinstance(value, type)]
        self.assertEqual(sorted(found), sorted(NAMES + ["ElsewhereError"]))

    def test_each_error_can_be_raised_and_caught(self):
        for name in NAMES:
            if name != "InvalidLine":
                with self.assertRaises(errors.ElsewhereError):
                    raise getattr(errors, name)("why")

    def test_invalid_line_tells_its_line(self):
        error = errors.InvalidLine(7)
        self.assertEqual(error.line, 7)
        self.assertIs(type(error.line), int)
        with self.assertRaises(ValueError) as caught:
            raise errors.InvalidLine(12)
        self.assertEqual(caught.exception.line, 12)
