"""The errors that the interface lists."""

import unittest

from maskedprints import errors

PLAIN = ["InvalidSize", "InvalidSteps", "UnknownCell", "InvalidNumber", "TooMany", "InvalidTones", "UnlikeSizes",
         "InvalidMask", "InvalidDeed", "InvalidName", "UnknownKept", "NoNegative", "TooLong"]
WITH_INDEX = ["InvalidRecipe", "InvalidPapers", "InvalidOperation"]
WITH_ROW = ["ScriptError", "ExecutionFailed"]
ALL = PLAIN + WITH_INDEX + WITH_ROW + ["InvalidNegative", "InvalidLine", "DecodeError"]


class ErrorsTest(unittest.TestCase):

    def test_the_base_class_is_a_value_error(self):
        self.assertEqual(errors.PrintError.__bases__, (ValueError,))

    def test_all_others_are_direct_subclasses(self):
        for name in ALL:
            found = getattr(errors, name)
            self.assertEqual(found.__bases__, (errors.PrintError,), name)
            self.assertEqual(found.__module__, "maskedprints.errors", name)

    def test_there_are_no_others(self):
        self.assertEqual(sorted(ALL), sorted(kind.__name__ for kind in errors.PrintError.__subclasses__()))

    def test_plain_ones_are_created_without_arguments(self):
        for name in PLAIN:
            with self.assertRaises(errors.PrintError):
                raise getattr(errors, name)()

    def test_attributes(self):
        for name in WITH_INDEX:
            self.assertEqual(getattr(errors, name)(3).index, 3)
            self.assertEqual(getattr(errors, name)(index=4).index, 4)
        for name in WITH_ROW:
            self.assertEqual(getattr(errors, name)(5).row, 5)
            self.assertEqual(getattr(errors, name)(row=6).row, 6)
        self.assertEqual(errors.InvalidNegative("height").part, "height")
        self.assertEqual(errors.InvalidNegative(part="width").part, "width")
        self.assertEqual(errors.DecodeError(7).offset, 7)
        self.assertEqual(errors.DecodeError(offset=7).offset, 7)
        wrong = errors.InvalidLine(1, 2)
        self.assertEqual((wrong.row, wrong.word), (1, 2))
        wrong = errors.InvalidLine(row=3, word=0)
        self.assertEqual((wrong.row, wrong.word), (3, 0))


if __name__ == "__main__":
    unittest.main()
