import unittest

from samples import LAST, LATE, LATEST, PLAIN, run, some_writers
from wroteback.errors import BadRow, BadTable
from wroteback.writers import Writer, stands_of, write_row

ROW = ((0, 0), (0, 1))
NO_TUPLES = [None, True, False, 0, 1, -1, "", "ab", [], {}, {0: ROW}]


class Tables(unittest.TestCase):
    def assert_bad(self, table, index):
        with self.assertRaises(BadTable) as caught:
            Writer(table)
        self.assertEqual(caught.exception.index, index, table)
        self.assertIs(type(caught.exception.index), type(index), table)

    def test_properties(self):
        for stands in range(1, 7):
            for letters in (2, 3):
                for writer in some_writers(stands, 5, stands, letters):
                    self.assertEqual(len(writer), stands)
                    self.assertEqual(writer.letters, letters)
                    self.assertEqual(Writer(writer.table).table, writer.table)
                    self.assertIs(type(writer.table), tuple)

    def test_table_is_kept(self):
        table = (((0, 3), (1, 0), (0, 2)), ((1, 1), (0, 3), (1, 0)))
        writer = Writer(table)
        self.assertEqual([writer.table, writer.letters, len(writer)], [table, 3, 2])
        self.assertEqual(table, (((0, 3), (1, 0), (0, 2)), ((1, 1), (0, 3), (1, 0))))

    def test_properties_of_the_class(self):
        self.assertIsInstance(Writer.table, property)
        self.assertIsInstance(Writer.letters, property)
        self.assertIn("__len__", vars(Writer))
        self.assertIn("__eq__", vars(Writer))

    def test_equal_if_the_tables_are(self):
        self.assertTrue(Writer(LATE.table) == LATE)
        self.assertFalse(Writer(LATE.table) != LATE)
        self.assertFalse(LATE == PLAIN)
        self.assertTrue(LATE != PLAIN)
        self.assertFalse(Writer((((0, 0), (0, 1)), ((0, 0), (0, 1)))) == PLAIN)

    def test_equal_to_nothing_of_another_kind(self):
        for other in NO_TUPLES + [LATE.table, (), object()]:
            self.assertFalse(LATE == other)
            self.assertFalse(other == LATE)
            self.assertTrue(LATE != other)

    def test_not_a_tuple_of_1_to_6_things(self):
        for table in NO_TUPLES + [(), [ROW], "((0, 0), (0, 1))", {ROW: ROW}]:
            self.assert_bad(table, None)

    def test_6_stands_and_7(self):
        self.assertEqual(len(Writer((ROW,) * 6)), 6)
        self.assert_bad((ROW,) * 7, None)
        self.assert_bad((None,) * 7, None)
        self.assertEqual(len(LATEST), 6)

    def test_rows_that_are_none(self):
        for row in NO_TUPLES + [(), ((0, 0),), ((0, 0),) * 4, list(ROW), "ab"]:
            self.assert_bad((row,), 0)
            self.assert_bad((ROW, row), 1)
            self.assert_bad((ROW, ROW, ROW, ROW, ROW, row), 5)

    def test_2_and_3_letters_and_1_and_4(self):
        for letters in (2, 3):
            self.assertEqual(Writer((((0, 0),) * letters,)).letters, letters)
        for letters in (0, 1, 4, 5):
            self.assert_bad((((0, 0),) * letters,), 0)

    def test_steps_that_are_none(self):
        for step in NO_TUPLES + [(), (0,), (0, 0, 0), [0, 0], "00", ((0, 0),)]:
            self.assert_bad((((0, 0), step),), 0)
            self.assert_bad((ROW, (step, (0, 0))), 1)

    def test_next_is_a_stand(self):
        self.assertEqual(Writer((((1, 0), (0, 0)), ((0, 0), (1, 0)))).table[0][0], (1, 0))
        for stand in (-1, 2, 6, None, "0", True, False, (), [0], {}):
            self.assert_bad((((0, 0), (stand, 0)), ROW), 0)
            self.assert_bad((ROW, ((stand, 0), (0, 0))), 1)

    def test_written_letters_0_and_3(self):
        self.assertEqual(Writer((((0, 0), (0, 3)),)).table, (((0, 0), (0, 3)),))
        for written in (-1, 4, None, "0", True, False, (), [0], {}):
            self.assert_bad((((0, 0), (0, written)),), 0)
            self.assert_bad((ROW, ((0, written), (0, 0))), 1)

    def test_as_many_steps_as_the_first_row(self):
        three = ((0, 0), (0, 1), (0, 2))
        self.assert_bad((ROW, three), 1)
        self.assert_bad((three, ROW), 1)
        self.assert_bad((three, three, ROW, ROW), 2)

    def test_several_wrong_at_once(self):
        three = ((0, 0), (0, 1), (0, 2))
        self.assert_bad((ROW, three, None, ((9, 9), (9, 9))), 1)
        self.assert_bad((None, three, ROW), 0)
        self.assert_bad((((0, 0),), ((0, 0),)), 0)
        self.assert_bad(([ROW], True, "x"), 0)
        self.assert_bad([None, None], None)

    def test_a_wrong_table_is_not_changed(self):
        table = [[[0, 0], [0, 1]]]
        self.assert_bad(table, None)
        self.assertEqual(table, [[[0, 0], [0, 1]]])


class Rows(unittest.TestCase):
    def assert_bad(self, writer, row, index):
        for function in (write_row, stands_of):
            with self.assertRaises(BadRow) as caught:
                function(writer, row)
            self.assertEqual(caught.exception.index, index, row)
            self.assertIs(type(caught.exception.index), type(index), row)

    def test_example(self):
        self.assertEqual(write_row(LATE, (1, 0, 0, 1)), (0, 1, 0, 0))
        self.assertEqual(stands_of(LATE, (1, 0, 0, 1)), [0, 1, 0, 0, 1])

    def test_no_letters(self):
        for writer in (LATE, PLAIN, LAST, LATEST):
            self.assertEqual(write_row(writer, ()), ())
            self.assertEqual(stands_of(writer, ()), [0])

    def test_three_letters(self):
        writer = Writer((((1, 3), (0, 0), (1, 2)), ((0, 1), (1, 0), (0, 2))))
        self.assertEqual(write_row(writer, (2, 1, 0, 1, 2, 2)), (2, 0, 1, 0, 2, 2))
        self.assertEqual(stands_of(writer, (2, 1, 0, 1, 2, 2)), [0, 1, 1, 0, 0, 1, 0])

    def test_rows_of_all_lengths(self):
        for stands in range(1, 7):
            for writer in some_writers(10 + stands, 4, stands, 2 + stands % 2):
                row = tuple((at * at + at // 3) % writer.letters for at in range(60))
                for many in range(61):
                    self.assertEqual(write_row(writer, row[:many]), run(writer, 0, row[:many])[0])
                    ends = [run(writer, 0, row[:end])[1] for end in range(many + 1)]
                    self.assertEqual(stands_of(writer, row[:many]), ends)

    def test_60_letters_and_61(self):
        self.assertEqual(write_row(LATE, (1,) * 60), (0,) + (1,) * 59)
        self.assertEqual(stands_of(LATE, (1,) * 60), [0] + [1] * 60)
        self.assert_bad(LATE, (1,) * 61, None)
        self.assert_bad(LATE, (9,) * 61, None)
        self.assert_bad(LATE, (1,) * 59 + (2,), 59)

    def test_not_a_tuple(self):
        for row in NO_TUPLES + [[0, 1], "01", {0: 1}]:
            self.assert_bad(LATE, row, None)

    def test_things_that_are_no_letters(self):
        for thing in (-1, 2, 3, None, True, False, "0", "", (), (0,), [0], {}):
            self.assert_bad(LATE, (thing,), 0)
            self.assert_bad(LATE, (0, 1, thing, 0), 2)

    def test_the_letters_are_those_of_the_writer(self):
        three = Writer((((0, 0), (0, 1), (0, 2)),))
        self.assertEqual(write_row(three, (2, 0, 1)), (2, 0, 1))
        self.assert_bad(three, (3,), 0)
        self.assert_bad(PLAIN, (0, 2), 1)

    def test_several_wrong_at_once(self):
        self.assert_bad(LATE, (0, True, -1, None), 1)
        self.assert_bad(LATE, [None, True], None)

    def test_lists_are_new_and_kinds_as_listed(self):
        stands = stands_of(LATE, (1, 0))
        stands.append(5)
        self.assertEqual(stands_of(LATE, (1, 0)), [0, 1, 0])
        self.assertIs(type(stands), list)
        self.assertIs(type(write_row(LATE, (1, 0))), tuple)


if __name__ == "__main__":
    unittest.main()
