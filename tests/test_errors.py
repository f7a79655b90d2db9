import unittest

from wroteback import errors

WITH_INDEX = ["BadTable", "BadRow", "BadWritten", "BadSeen"]
WITHOUT_FIELDS = ["BadStand", "BadSize", "Late", "NoRow", "Full", "NotComparable", "NotFitting", "TooMany"]


class ErrorClasses(unittest.TestCase):
    def test_the_base_class_is_a_value_error(self):
        self.assertEqual(errors.WriterError.__bases__, (ValueError,))

    def test_all_are_direct_subclasses(self):
        for name in WITH_INDEX + WITHOUT_FIELDS + ["InvalidText"]:
            self.assertEqual(getattr(errors, name).__bases__, (errors.WriterError,), name)

    def test_index_is_kept(self):
        for name in WITH_INDEX:
            error = getattr(errors, name)
            for index in (None, 0, 59):
                self.assertEqual(error(index).index, index, name)
                self.assertEqual(error(index=index).index, index, name)

    def test_line_and_word_are_kept(self):
        for error in (errors.InvalidText(2, 3), errors.InvalidText(line=2, word=3)):
            self.assertEqual([error.line, error.word], [2, 3])

    def test_the_others_need_nothing(self):
        for name in WITHOUT_FIELDS:
            with self.assertRaises(errors.WriterError):
                raise getattr(errors, name)()


if __name__ == "__main__":
    unittest.main()
