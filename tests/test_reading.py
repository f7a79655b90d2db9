import unittest

from samples import (
    LAST, LATE, LATEST, LATEST_OF_3, LATEST_OF_4, LOST, LOST_LATER, PLAIN, all_rows, all_written, common_beginning,
    large_writers, rows_by_written, run, small_writers, some_writers,
)
from wroteback.errors import BadStand, BadWritten, Late
from wroteback.judging import delay, word
from wroteback.reading import back, count_rows, row_to, stands_after, sure
from wroteback.writers import Writer

DELAY_2 = Writer((((1, 0), (2, 0)), ((0, 1), (0, 2)), ((0, 3), (3, 1)), ((3, 2), (3, 3))))
DELAY_4 = Writer((((1, 0), (2, 2)), ((1, 2), (3, 1)), ((1, 1), (0, 0)), ((0, 0), (3, 0))))
THREE_LETTERS = Writer((((0, 0), (1, 0), (1, 1)), ((1, 2), (0, 3), (0, 1))))
UP_TO_60 = [(0,) * 60, (3,) * 60, (0, 1, 2, 3) * 15]

# (a value that is not what is written, the index of BadWritten)
BAD_WRITTEN = [
    (None, None), (True, None), (False, None), (0, None), (-1, None), ("", None), ("01", None), ([], None),
    ([0, 1], None), ({}, None), ({0: 1}, None), ((0,) * 61, None), ((9,) * 61, None), ([None, True], None),
    ((4,), 0), ((-1,), 0), ((0, 4), 1), ((0, True), 1), ((False, 0), 0), ((0, 0, None), 2), (("0",), 0), (("",), 0),
    (((),), 0), (((0,), 0), 0), ((0, [1]), 1), ((0, {}), 1), ((0,) * 59 + (4,), 59), ((0, 1, 9, None, True), 2),
]


def large_written(writer, many):
    """What is written for some rows of so many letters."""
    rows = [
        tuple((at * at + at // step) % writer.letters for at in range(many)) for step in (1, 2, 3, 5, 7)
    ]
    return [run(writer, 0, row) + (row,) for row in rows]


def count_to(writer, stand, written, end):
    """How many rows lead from a stand to an end, by what remains to be written after the first letter."""
    known = {}

    def count(at, place):
        if place == len(written):
            return int(at == end)
        if (at, place) not in known:
            known[at, place] = sum(
                count(behind, place + 1) for behind, wrote in writer.table[at] if wrote == written[place]
            )
        return known[at, place]

    return count(stand, 0)


class Examples(unittest.TestCase):
    def test_examples(self):
        self.assertEqual(count_rows(LATE, (0, 1, 0)), 2)
        self.assertEqual(stands_after(LATE, (0, 1, 0)), [0, 1])
        self.assertEqual(sure(LATE, (0, 1, 0)), (1, 0))
        self.assertEqual(row_to(LATE, (0, 1, 0), 1), (1, 0, 1))
        self.assertIsNone(sure(LATE, (1,)))
        self.assertEqual(
            back(LATE),
            (((1, None), None, None, None), ((1, 0), (2, 1), None, None), ((1, 0), (2, 1), None, None)),
        )
        with self.assertRaises(Late):
            back(LOST)


class Reading(unittest.TestCase):
    def assert_read(self, writer, written, rows):
        ends = [run(writer, 0, row)[1] for row in rows]
        place = (writer.table, written)
        self.assertEqual(count_rows(writer, written), len(rows), place)
        self.assertEqual(stands_after(writer, written), sorted(set(ends)), place)
        self.assertEqual(sure(writer, written), common_beginning(rows), place)
        for stand in range(len(writer)):
            least = min((row for row, end in zip(rows, ends) if end == stand), default=None)
            self.assertEqual(row_to(writer, written, stand), least, place)

    def test_against_all_rows(self):
        for writer in small_writers() + [DELAY_2, THREE_LETTERS]:
            for many in range(4):
                groups = rows_by_written(writer, 0, many)
                for written in groups:
                    self.assert_read(writer, written, groups[written])

    def test_longer_rows(self):
        for writer in small_writers()[::20] + large_writers()[::4]:
            groups = rows_by_written(writer, 0, 7)
            for written in groups:
                self.assert_read(writer, written, groups[written])

    def test_what_no_row_writes(self):
        found = 0
        for writer in small_writers()[::10] + [DELAY_2, THREE_LETTERS, LATEST]:
            for many in range(4):
                groups = rows_by_written(writer, 0, many)
                for written in all_written(many):
                    if written not in groups:
                        found += 1
                        self.assert_read(writer, written, [])
        self.assertGreater(found, 1000)

    def test_nothing_written(self):
        for writer in small_writers()[::10] + large_writers():
            self.assertEqual(count_rows(writer, ()), 1)
            self.assertEqual(stands_after(writer, ()), [0])
            self.assertEqual(sure(writer, ()), ())
            told = [row_to(writer, (), stand) for stand in range(len(writer))]
            self.assertEqual(told, [()] + [None] * (len(writer) - 1))

    def test_rows_that_part_and_meet_again(self):
        # After unlike first letters all rows go on by 0, which is no common beginning.
        writer = Writer((((1, 0), (1, 0)), ((1, 1), (1, 2))))
        self.assertEqual(sure(writer, (0, 1, 1)), ())
        self.assertEqual([count_rows(writer, (0, 1, 1)), row_to(writer, (0, 1, 1), 1)], [2, (0, 0, 0)])

    def test_60_letters(self):
        self.assertEqual(count_rows(LOST, (0,) * 60), 2 ** 60)
        self.assertEqual(count_rows(Writer((((0, 3),) * 3,)), (3,) * 60), 3 ** 60)
        self.assertEqual([stands_after(LOST, (0,) * 60), sure(LOST, (0,) * 60)], [[0], ()])
        self.assertEqual(row_to(LOST, (0,) * 60, 0), (0,) * 60)
        self.assertEqual(sure(PLAIN, (0, 1) * 30), (0, 1) * 30)
        self.assertEqual(sure(LATE, (0,) * 60), (0,) * 59)
        self.assertEqual([sure(LAST, (0,) * 60), count_rows(LAST, (0,) * 60)], [(), 2])
        self.assertEqual(row_to(LAST, (0,) * 60, 2), (1,) + (0,) * 59)
        for written in UP_TO_60[1:]:
            told = [count_rows(LATE, written), stands_after(LATE, written), sure(LATE, written)]
            self.assertEqual(told, [0, [], None])
            self.assertIsNone(row_to(LATE, written, 0))

    def test_many_letters_of_large_writers(self):
        for writer in large_writers():
            for written, end, row in large_written(writer, 60):
                counts = [count_to(writer, 0, written, stand) for stand in range(len(writer))]
                self.assertEqual(count_rows(writer, written), sum(counts))
                told = [stand for stand in range(len(writer)) if counts[stand]]
                self.assertEqual(stands_after(writer, written), told)
                self.assertIn(end, told)
                self.assertLessEqual(row_to(writer, written, end), row)
                beginning = sure(writer, written)
                self.assertEqual(row[:len(beginning)], beginning)

    def test_the_least_rows_of_large_writers(self):
        for writer in large_writers():
            for written, _, _ in large_written(writer, 60):
                for stand in range(len(writer)):
                    self.assert_least(writer, written, stand)

    def assert_least(self, writer, written, stand):
        row = row_to(writer, written, stand)
        if row is None:
            self.assertEqual(count_to(writer, 0, written, stand), 0)
            return
        self.assertEqual(run(writer, 0, row), (written, stand))
        for at, letter in enumerate(row):
            steps = writer.table[run(writer, 0, row[:at])[1]]
            for behind, wrote in steps[:letter]:
                if wrote == written[at]:
                    self.assertEqual(count_to(writer, behind, written[at + 1:], stand), 0)

    def test_one_row_at_most_unless_lost(self):
        found = {"soon": 0, "last": 0}
        for writer in small_writers() + large_writers():
            kind = word(writer)
            if kind != "lost":
                for written, end, row in large_written(writer, 20):
                    found[kind] += 1
                    self.assertEqual(row_to(writer, written, end), row)
                    ends = stands_after(writer, written)
                    self.assertEqual(count_rows(writer, written), len(ends))
                    rows = [row_to(writer, written, stand) for stand in ends]
                    self.assertEqual(sure(writer, written), common_beginning(rows))
        self.assertGreater(min(found.values()), 20)

    def test_all_letters_but_the_last_d_are_sure(self):
        for writer in small_writers() + large_writers():
            late = delay(writer)
            if late is not None:
                for written, _, row in large_written(writer, 40):
                    beginning = sure(writer, written)
                    self.assertGreaterEqual(len(beginning), 40 - late)
                    self.assertEqual(row[:len(beginning)], beginning)

    def test_three_letters(self):
        self.assertEqual(count_rows(THREE_LETTERS, (0, 2)), 1)
        self.assertEqual(sure(THREE_LETTERS, (0, 2)), (1, 0))
        self.assertEqual(row_to(THREE_LETTERS, (1, 2), 1), (2, 0))
        self.assertEqual(stands_after(THREE_LETTERS, (0, 1)), [0, 1])


class WrongInputs(unittest.TestCase):
    def assert_bad_written(self, call, index, written):
        with self.assertRaises(BadWritten) as caught:
            call()
        self.assertEqual(caught.exception.index, index, written)
        self.assertIs(type(caught.exception.index), type(index), written)

    def test_not_what_is_written(self):
        for written, index in BAD_WRITTEN:
            for function in (count_rows, stands_after, sure):
                self.assert_bad_written(lambda: function(LATE, written), index, written)
            self.assert_bad_written(lambda: row_to(LATE, written, 0), index, written)

    def test_written_letters_0_and_3_whatever_the_writer_writes(self):
        for writer in (PLAIN, LATE, LOST, DELAY_2):
            self.assertEqual(count_rows(writer, (3,)), 0)
            self.assertEqual(stands_after(writer, (3, 0)), [])
            self.assertIsNone(sure(writer, (0, 0, 0, 3, 3)))
            self.assert_bad_written(lambda: count_rows(writer, (3, 4)), 1, (3, 4))

    def test_60_letters_and_61(self):
        for written in UP_TO_60:
            self.assertEqual(len(written), 60)
            for function in (count_rows, stands_after, sure):
                function(LATE, written)
                self.assert_bad_written(lambda: function(LATE, written + (0,)), None, written)

    def test_values_that_are_no_stand(self):
        for stand in (-1, 2, 6, None, True, False, "0", "", (), (0,), [0], {}):
            for written in ((), (0,), (3,)):
                with self.assertRaises(BadStand):
                    row_to(LATE, written, stand)

    def test_the_last_stand(self):
        self.assertIsNone(row_to(LATEST, (), 5))
        with self.assertRaises(BadStand):
            row_to(LATEST, (), 6)
        self.assertEqual(row_to(PLAIN, (1,), 0), (1,))
        with self.assertRaises(BadStand):
            row_to(PLAIN, (1,), 1)

    def test_what_is_written_is_named_first(self):
        for written, index in BAD_WRITTEN:
            for stand in (-1, 2, None, True, "", []):
                self.assert_bad_written(lambda: row_to(LATE, written, stand), index, written)

    def test_arguments_are_not_modified(self):
        for value in ([0, 1], [None], {0: 1}):
            before = value.copy()
            for function in (count_rows, stands_after, sure):
                with self.assertRaises(BadWritten):
                    function(LATE, value)
            self.assertEqual(value, before)

    def test_lists_are_new_and_kinds_as_listed(self):
        told = stands_after(LATE, (0, 1))
        told.append(9)
        self.assertEqual(stands_after(LATE, (0, 1)), [0, 1])
        self.assertIs(type(stands_after(LATE, (1,))), list)
        self.assertIs(type(count_rows(LATE, (1,))), int)
        self.assertIs(type(sure(LATE, (0, 1))), tuple)
        self.assertIs(type(row_to(LATE, (0, 1), 0)), tuple)

    def test_repeated_calls_and_errors_change_nothing(self):
        for writer in (LATE, LAST, LOST_LATER, DELAY_2):
            before = [count_rows(writer, (0, 1)), stands_after(writer, (0, 1)), sure(writer, (0, 1))]
            table = writer.table
            for call in (lambda: sure(writer, (4,)), lambda: row_to(writer, (), 9), lambda: count_rows(writer, None)):
                with self.assertRaises(ValueError):
                    call()
            after = [count_rows(writer, (0, 1)), stands_after(writer, (0, 1)), sure(writer, (0, 1))]
            self.assertEqual([before, table], [after, writer.table])


def slow_back(writer, ahead):
    """The table that reads back, each letter told by trying all rows."""
    pairs = [(0, ())]
    found = []
    for stand, untold in pairs:
        steps = []
        for wrote in range(4):
            put = untold + (wrote,)
            rows = rows_by_written(writer, stand, len(put)).get(put, [])
            if not rows:
                steps.append(None)
                continue
            letter = None
            behind = (stand, put)
            if len(put) == ahead + 1:
                (letter,) = {row[0] for row in rows}
                behind = (writer.table[stand][letter][0], put[1:])
            if behind not in pairs:
                pairs.append(behind)
            steps.append((pairs.index(behind), letter))
        found.append(tuple(steps))
    return tuple(found)


def read_back(table, written):
    """The letters that a table tells, None if it does not know one of the written letters."""
    stand = 0
    told = []
    for wrote in written:
        if table[stand][wrote] is None:
            return None
        stand, letter = table[stand][wrote]
        told.append(letter)
    return tuple(told)


def writers_to_read_back():
    found = small_writers() + large_writers() + some_writers(6, 1500, 3, 2) + some_writers(7, 700, 4, 2)
    return found + [DELAY_2, DELAY_4]


class Back(unittest.TestCase):
    def test_delay_0(self):
        self.assertEqual(back(PLAIN), (((0, 0), (0, 1), None, None),))
        writer = Writer((((1, 3), (0, 0)), ((0, 1), (1, 2))))
        self.assertEqual(back(writer), (((0, 1), None, None, (1, 0)), (None, (0, 0), (1, 1), None)))

    def test_delay_0_numbered_as_come_to(self):
        # The written letter 0 leads to the stand 2, which is come to before the stand 1.
        writer = Writer((((1, 1), (2, 0)), ((1, 0), (1, 1)), ((2, 0), (0, 1))))
        self.assertEqual(back(writer), (
            ((1, 1), (2, 0), None, None), ((1, 0), (0, 1), None, None), ((2, 0), (2, 1), None, None),
        ))

    def test_delay_2(self):
        self.assertEqual(delay(DELAY_2), 2)
        self.assertEqual(back(DELAY_2)[0], ((1, None), None, None, None))
        self.assertEqual(back(DELAY_2)[1], (None, (2, None), (3, None), (4, None)))
        self.assertEqual(back(DELAY_2), slow_back(DELAY_2, 2))

    def test_delay_3(self):
        self.assertEqual(delay(LATEST_OF_3), 3)
        self.assertEqual(back(LATEST_OF_3), slow_back(LATEST_OF_3, 3))

    def test_against_all_rows_and_late(self):
        found = []
        for writer in writers_to_read_back():
            late = delay(writer)
            found.append(late)
            if late is None or late > 3:
                with self.assertRaises(Late):
                    back(writer)
            else:
                self.assertEqual(back(writer), slow_back(writer, late), writer.table)
        self.assertLessEqual({None, 0, 1, 2, 3, 4}, set(found))

    def test_it_reads_back_what_was_read(self):
        for writer in writers_to_read_back()[::5] + [DELAY_2, LATEST_OF_3]:
            late = delay(writer)
            if late is not None and late <= 3:
                table = back(writer)
                for row in all_rows(writer, 6 if writer.letters == 2 else 4):
                    told = read_back(table, run(writer, 0, row)[0])
                    self.assertEqual(told, (None,) * late + row[:len(row) - late])

    def test_it_knows_nothing_that_no_row_writes(self):
        for writer in writers_to_read_back()[::20] + [DELAY_2, LATEST_OF_3]:
            late = delay(writer)
            if late is not None and late <= 3:
                table = back(writer)
                groups = rows_by_written(writer, 0, 4)
                for written in all_written(4):
                    self.assertEqual(read_back(table, written) is None, written not in groups)

    def test_late(self):
        self.assertEqual([delay(writer) for writer in (DELAY_4, LATEST_OF_4, LATEST)], [4, 6, 15])
        for writer in (LOST, LOST_LATER, LAST, DELAY_4, LATEST_OF_4, LATEST):
            with self.assertRaises(Late):
                back(writer)

    def test_stands_that_are_not_come_to_do_not_count(self):
        writer = Writer((((0, 0), (0, 1)), ((1, 0), (1, 0))))
        self.assertEqual(back(writer), back(PLAIN))

    def test_kinds_and_repeated_calls(self):
        table = back(DELAY_2)
        self.assertEqual(back(DELAY_2), table)
        self.assertIs(type(table), tuple)
        for steps in table:
            self.assertIs(type(steps), tuple)
            self.assertEqual(len(steps), 4)
            for step in steps:
                self.assertTrue(step is None or (type(step) is tuple and len(step) == 2 and type(step[0]) is int))


if __name__ == "__main__":
    unittest.main()
