import unittest

from samples import LAST, LATE, LATEST, PLAIN, large_writers, small_writers, some_writers
from wroteback.errors import InvalidText
from wroteback.texts import read, write
from wroteback.writers import Writer

LATE_TEXT = "stand 0:0 1:0\nstand 0:1 1:1"
NO_STEPS = [
    "0", ":", "0:", ":0", "0:0:0", "00:0", "0:00", "+0:0", "0:+0", "-0:0", "0:-0", "-1:0", "0:-1", "0:4", "2:0", "6:0",
    "0;0", "0,0", "0_0:0", "0.0:0", "x", "stand", "None", "True:0", "0:True", "01:0", "0:01", "\u0660:0", "0:\u0661",
    "\u00b2:0", "\t0:0", "0:0\t", "0:\t0", "0:0\r", "0:0\u00a0", "0x0:0", "1e0:0", "(0,0)", "0:0,", "9" * 50 + ":0",
]


class Write(unittest.TestCase):
    def test_example(self):
        self.assertEqual(write(LATE).split("\n"), ["stand 0:0 1:0", "stand 0:1 1:1"])

    def test_one_stand_and_six(self):
        self.assertEqual(write(PLAIN), "stand 0:0 0:1")
        self.assertEqual(
            write(LATEST),
            "stand 1:3 1:0\nstand 5:0 2:3\nstand 2:0 0:0\nstand 4:1 3:3\nstand 5:3 3:0\nstand 2:1 4:0",
        )

    def test_three_letters(self):
        self.assertEqual(write(Writer((((0, 3), (0, 0), (0, 2)),))), "stand 0:3 0:0 0:2")

    def test_repeated_calls_give_equal_results(self):
        self.assertEqual(write(LAST), write(LAST))


class Read(unittest.TestCase):
    def test_what_was_written(self):
        for writer in small_writers()[::5] + large_writers() + some_writers(11, 20, 6, 3) + some_writers(12, 20, 5, 2):
            self.assertTrue(read(write(writer)) == writer)
            self.assertEqual(write(read(write(writer))), write(writer))

    def test_kinds(self):
        self.assertIs(type(read(LATE_TEXT)), Writer)
        self.assertIs(type(write(LATE)), str)
        self.assertEqual(read(LATE_TEXT).table, LATE.table)

    def test_spaces_that_mean_nothing(self):
        for text in (
            "stand 0:0 1:0   \nstand 0:1 1:1 ",
            "  stand 0:0 1:0\n stand 0:1 1:1",
            "stand   0:0  1:0\nstand 0:1     1:1",
            "   stand   0:0   1:0   \n   stand   0:1   1:1   ",
        ):
            self.assertTrue(read(text) == LATE)

    def test_one_stand_and_six(self):
        self.assertEqual(read("stand 0:3 0:0").table, (((0, 3), (0, 0)),))
        line = "stand 5:0 0:3 3:1"
        self.assertEqual(read("\n".join([line] * 6)).table, (((5, 0), (0, 3), (3, 1)),) * 6)


class Refused(unittest.TestCase):
    def assert_invalid(self, text, line, number):
        with self.assertRaises(InvalidText) as caught:
            read(text)
        self.assertEqual([caught.exception.line, caught.exception.word], [line, number], repr(text))

    def test_example(self):
        self.assert_invalid("stand 0:0 1:0\nstand 0:1", 2, 3)

    def test_lines_without_words(self):
        self.assert_invalid("", 1, 1)
        self.assert_invalid("    ", 1, 1)
        self.assert_invalid("\n" + LATE_TEXT, 1, 1)
        self.assert_invalid("\n\n\n", 1, 1)
        self.assert_invalid("stand 0:0 1:0\n\nstand 0:1 1:1", 2, 1)
        self.assert_invalid("stand 0:0 1:0\n   \nstand 0:1 1:1", 2, 1)

    def test_a_newline_behind_the_last_line(self):
        self.assert_invalid(LATE_TEXT + "\n", 3, 1)
        self.assert_invalid(LATE_TEXT + "\n ", 3, 1)
        self.assert_invalid(write(LATEST) + "\n", 7, 1)

    def test_the_first_word(self):
        for first in ("Stand", "STAND", "stands", "stand:", "0:0", "x", "stand\t", "\tstand", "\u00a0stand"):
            self.assert_invalid(f"{first} 0:0 1:0\nstand 0:1 1:1", 1, 1)
            self.assert_invalid(f"stand 0:0 1:0\n{first} 0:1 1:1", 2, 1)
            self.assert_invalid(f"stand 0:0 1:0\n  {first} x", 2, 1)
        self.assert_invalid("stand\t0:0 0:0", 1, 1)
        self.assert_invalid("stand0:0 0:0", 1, 1)

    def test_words_that_are_no_steps(self):
        for wrong in NO_STEPS:
            self.assert_invalid(f"stand {wrong} 1:0\nstand 0:1 1:1", 1, 2)
            self.assert_invalid(f"stand 0:0 {wrong}\nstand 0:1 1:1", 1, 3)
            self.assert_invalid(f"stand 0:0 1:0 {wrong}\nstand 0:1 1:1", 1, 4)
            self.assert_invalid(f"stand 0:0 1:0\nstand  {wrong}  1:1", 2, 2)
            self.assert_invalid(f"stand 0:0 1:0\nstand 0:1 {wrong}", 2, 3)

    def test_words_parted_by_no_space(self):
        self.assert_invalid("stand 0:0\t1:0\nstand 0:1 1:1", 1, 2)
        self.assert_invalid("stand 0 :0 1:0\nstand 0:1 1:1", 1, 2)
        self.assert_invalid("stand 0: 0 1:0\nstand 0:1 1:1", 1, 2)
        self.assert_invalid("stand 0:0 1:0\r\nstand 0:1 1:1", 1, 3)
        self.assert_invalid("stand 0:0 1:0\x0bstand 0:1 1:1", 1, 3)

    def test_the_stands_are_as_many_as_the_lines(self):
        self.assert_invalid("stand 0:0 1:0", 1, 3)
        self.assert_invalid("stand 0:0 1:0\nstand 2:0 1:1", 2, 2)
        self.assertEqual(len(read("stand 0:0 1:0\nstand 2:0 1:1\nstand 0:0 0:0")), 3)
        # The empty line counts as one: the step 2:0 can stand before it.
        self.assert_invalid("stand 0:0 1:0\nstand 2:0 1:1\n", 3, 1)
        self.assert_invalid("stand 0:0 1:0\nstand 3:0 1:1\n", 2, 2)

    def test_too_few_steps(self):
        self.assert_invalid("stand", 1, 2)
        self.assert_invalid("stand 0:0", 1, 3)
        self.assert_invalid("  stand   0:0  ", 1, 3)
        self.assert_invalid("stand 0:0 0:0 0:0\nstand", 2, 2)
        self.assert_invalid("stand 0:0 0:0 0:0\nstand 0:0", 2, 3)
        self.assert_invalid("stand 0:0 0:0 0:0\nstand 0:0 0:0", 2, 4)

    def test_too_many_steps(self):
        self.assert_invalid("stand 0:0 0:0 0:0 0:0", 1, 5)
        self.assert_invalid("stand 0:0 0:0 0:0 0:0 0:0 x", 1, 5)
        self.assert_invalid("stand 0:0 0:0 0:0\nstand 0:0 0:0 0:0 0:0", 2, 5)
        self.assert_invalid("stand 0:0 0:0\nstand 0:0 0:0 0:0", 2, 4)
        self.assert_invalid("stand 0:0 0:0\nstand 0:0 0:0 x", 2, 4)
        self.assert_invalid("stand 0:0 0:0\nstand 0:0 0:0\nstand 0:0 0:0 0:0 0:0", 3, 4)

    def test_more_lines_than_six(self):
        line = "stand 5:0 0:3"
        self.assert_invalid("\n".join([line] * 7), 7, 1)
        self.assert_invalid("\n".join([line] * 9), 7, 1)
        for seventh in ("", "   ", "x", "stand", "stand 6:0 0:0"):
            self.assert_invalid("\n".join([line] * 6 + [seventh]), 7, 1)
            self.assert_invalid("\n".join([line] * 6 + [seventh, line]), 7, 1)

    def test_the_first_six_lines_come_first(self):
        line = "stand 5:0 0:3"
        self.assert_invalid("\n".join([line] * 5 + ["stand 5:0 6:0"] + [line] * 3), 6, 3)
        self.assert_invalid("\n".join([line] * 5 + ["stand 5:0", "x"]), 6, 3)
        self.assert_invalid("\n".join(["stand 6:0 0:0"] + [line] * 6), 1, 2)

    def test_several_things_wrong_at_once(self):
        self.assert_invalid("stand 0:9 x 0:0 0:0 0:0\n\nx", 1, 2)
        self.assert_invalid("x 0:9", 1, 1)
        self.assert_invalid("stand 0:0 0:0\nstand 0:0 x 0:0 0:0\nstand", 2, 3)
        self.assert_invalid("stand 0:0\nstand x", 1, 3)
        self.assert_invalid("stand 0:0 0:0\nstand x", 2, 2)

    def test_an_error_changes_nothing(self):
        self.assert_invalid("stand", 1, 2)
        self.assertTrue(read(LATE_TEXT) == LATE)


if __name__ == "__main__":
    unittest.main()
