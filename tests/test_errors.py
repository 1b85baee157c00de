"""Points 3 and 4, and the interface of fleuron/errors.py."""

import unittest

from fleuron import errors

NAMES_WITHOUT_ARGUMENTS = ("ZeroDivisor", "InvalidPlace", "InvalidSize", "InvalidTable", "InvalidPacking")
NAMES_WITH_NUMBER = ("UnknownGlyph", "OutOfRange")


class ErrorsTest(unittest.TestCase):
    def test_the_base_class_is_directly_below_value_error(self):
        self.assertEqual(errors.FleuronError.__bases__, (ValueError,))

    def test_each_class_is_directly_below_the_base_class(self):
        names = ("TextError", "InvalidFont", "NoTable", "TooLarge") + NAMES_WITH_NUMBER + NAMES_WITHOUT_ARGUMENTS
        for name in names:
            self.assertEqual(getattr(errors, name).__bases__, (errors.FleuronError,), name)

    def test_attributes_have_the_names_of_the_parameters(self):
        text = errors.TextError(line=3, reason="word")
        self.assertEqual((text.line, text.reason), (3, "word"))
        font = errors.InvalidFont(place="glyph 2", reason="because")
        self.assertEqual((font.place, font.reason), ("glyph 2", "because"))
        table = errors.NoTable(function=-1, place=7)
        self.assertEqual((table.function, table.place), (-1, 7))
        self.assertEqual(errors.TooLarge(limit="run").limit, "run")
        for name in NAMES_WITH_NUMBER:
            self.assertEqual(getattr(errors, name)(number=61).number, 61)

    def test_arguments_by_position(self):
        self.assertEqual(vars(errors.TextError(3, "word")), {"line": 3, "reason": "word"})
        self.assertEqual(vars(errors.InvalidFont("axes", "x")), {"place": "axes", "reason": "x"})
        self.assertEqual(vars(errors.NoTable(0, 1)), {"function": 0, "place": 1})
        self.assertEqual(vars(errors.TooLarge("text")), {"limit": "text"})
        self.assertEqual(vars(errors.UnknownGlyph(9)), {"number": 9})
        self.assertEqual(vars(errors.OutOfRange(9)), {"number": 9})

    def test_classes_without_arguments(self):
        for name in NAMES_WITHOUT_ARGUMENTS:
            error = getattr(errors, name)()
            self.assertEqual(vars(error), {})
            self.assertNotEqual(str(error), "")

    def test_all_can_be_raised_and_caught_as_value_errors(self):
        for error in (errors.TooLarge("run"), errors.ZeroDivisor(), errors.NoTable(0, 0)):
            with self.assertRaises(ValueError):
                raise error


if __name__ == "__main__":
    unittest.main()
