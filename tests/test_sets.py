import itertools
import unittest

from samples import (
    LAST, LATE, LATEST, LOST, LOST_LATER, PLAIN, all_rows, all_tables, doubled, nearly, renumbered, run, some_writers,
    writers_of_all_kinds, written_in,
)
from wroteback.errors import BadSize
from wroteback.judging import word
from wroteback.likes import smallest
from wroteback.reading import count_rows
from wroteback.sets import count_written, first_more, least_never
from wroteback.writers import Writer

FOUR_WRITTEN = Writer((((1, 0), (1, 1), (1, 2)), ((0, 3), (0, 1), (0, 2))))
# All that is written in up to 16 of the letters 0 and 1, but not all that is in 17.
NEVER_17 = Writer((
    ((1, 0), (2, 0), (0, 1)), ((2, 0), (3, 0), (2, 0)), ((0, 1), (4, 0), (4, 1)), ((2, 1), (2, 1), (5, 0)),
    ((4, 1), (2, 1), (3, 0)), ((1, 0), (4, 1), (5, 1)),
))
LONGEST_TRIED = 7


def slow_least_never(writer, letters):
    """By trying all tuples of up to LONGEST_TRIED letters, None if all of them can be written."""
    for many in range(1, LONGEST_TRIED + 1):
        known = written_in(writer, many)
        for written in itertools.product(range(letters), repeat=many):
            if written not in known:
                return written
    return None


def slow_first_more(one, other, longest):
    for many in range(1, longest + 1):
        found = written_in(one, many) - written_in(other, many)
        if found:
            return min(found)
    return None


def can_write(writer, written):
    """Whether some row is written so, however long it is."""
    stands = {0}
    for letter in written:
        stands = {behind for stand in stands for behind, wrote in writer.table[stand] if wrote == letter}
    return bool(stands)


def count_by_suffix(writer, many):
    """The number of tuples it can write, by the sets of stands, counted from the last letter backwards."""
    known = {}

    def count(stands, left):
        if left == 0:
            return 1
        if (stands, left) not in known:
            total = 0
            for letter in range(4):
                behind = frozenset(
                    step[0] for stand in stands for step in writer.table[stand] if step[1] == letter
                )
                total += count(behind, left - 1) if behind else 0
            known[stands, left] = total
        return known[stands, left]

    return count(frozenset([0]), many)


class LeastNever(unittest.TestCase):
    def test_examples(self):
        self.assertEqual([least_never(LATE, 2), least_never(PLAIN, 2), least_never(PLAIN, 3)], [(1,), None, (2,)])

    def test_against_all_rows(self):
        lengths = set()
        for writer in writers_of_all_kinds(6, 8) + [Writer(table) for table in all_tables(2, 2, 2)]:
            if writer.letters == 2 or len(writer) < 4:
                for letters in (1, 2, 3, 4):
                    told = least_never(writer, letters)
                    lengths.add(None if told is None else len(told))
                    if told is None or len(told) > LONGEST_TRIED:
                        told = None
                    self.assertEqual(told, slow_least_never(writer, letters), (writer.table, letters))
        self.assertLessEqual({None, 1, 2, 3, 4}, lengths)

    def test_letters_1_and_4(self):
        self.assertIsNone(least_never(LOST, 1))
        self.assertEqual([least_never(LOST, letters) for letters in (2, 3, 4)], [(1,), (1,), (1,)])
        self.assertEqual([least_never(FOUR_WRITTEN, letters) for letters in (1, 2, 3, 4)], [(0, 0)] * 3 + [(3,)])
        self.assertEqual(least_never(Writer((((0, 3), (0, 3)),)), 1), (0,))
        self.assertEqual(least_never(Writer((((0, 0), (0, 1), (0, 2)),)), 4), (3,))

    def test_of_4_letters_the_first_stand_never_writes_all(self):
        for writer in writers_of_all_kinds(16, 5):
            first = sorted({0, 1, 2, 3} - {wrote for _, wrote in writer.table[0]})[0]
            self.assertEqual(least_never(writer, 4), (first,))

    def test_written_letters_that_are_not_below_letters_do_not_count(self):
        writer = Writer((((0, 0), (1, 3), (0, 1)), ((1, 0), (1, 0), (1, 0))))
        self.assertEqual([least_never(writer, 1), least_never(writer, 2)], [None, None])
        self.assertEqual([least_never(writer, 3), least_never(writer, 4)], [(2,), (2,)])

    def test_the_least_of_the_shortest(self):
        # (0, 0, 0) and (1, 0) are never written, either.
        writer = Writer((((1, 0), (2, 1)), ((3, 0), (3, 0)), ((2, 1), (2, 1)), ((3, 1), (3, 1))))
        self.assertEqual(least_never(writer, 2), (0, 1))

    def test_all_stands_together_write_all(self):
        # From no single stand all is written: 1 always writes 0 first, and 2 always 1.
        writer = Writer((((1, 0), (2, 0), (0, 1)), ((1, 0), (2, 0), (1, 0)), ((1, 1), (2, 1), (2, 1))))
        self.assertIsNone(least_never(writer, 2))

    def test_long_tuples(self):
        told = least_never(NEVER_17, 2)
        self.assertEqual(len(told), 17)
        self.assertEqual(count_rows(NEVER_17, told), 0)
        self.assertFalse(can_write(NEVER_17, told))
        for many in range(17):
            self.assertEqual(count_by_suffix(NEVER_17, many), 2 ** many)
        # Nothing that is less is never written, either.
        for at, letter in enumerate(told):
            if letter == 1:
                for rest in itertools.product((0, 1), repeat=min(6, 16 - at)):
                    self.assertTrue(can_write(NEVER_17, told[:at] + (0,) + rest))

    def test_writers_that_write_the_same(self):
        for seed, writer in enumerate(writers_of_all_kinds(7, 4)):
            for letters in (2, 3):
                told = least_never(writer, letters)
                self.assertEqual(least_never(smallest(writer), letters), told)
                self.assertEqual(least_never(renumbered(writer, seed), letters), told)

    def test_values_that_are_no_size(self):
        for letters in (-1, 0, 5, 60, None, True, False, "1", "", (), (2,), [2], {}, {2: 2}):
            with self.assertRaises(BadSize):
                least_never(LATE, letters)


class CountWritten(unittest.TestCase):
    def test_example(self):
        self.assertEqual(count_written(LATE, 3), 4)

    def test_against_all_rows(self):
        words = set()
        for writer in writers_of_all_kinds(8, 5) + [Writer(table) for table in all_tables(2, 2, 2)]:
            words.add(word(writer))
            for many in range(8 if writer.letters == 2 else 6):
                self.assertEqual(count_written(writer, many), len(written_in(writer, many)), (writer.table, many))
        self.assertEqual(words, {"soon", "last", "lost"})

    def test_many_0(self):
        for writer in writers_of_all_kinds(9, 1):
            self.assertEqual(count_written(writer, 0), 1)

    def test_many_60(self):
        self.assertEqual(count_written(PLAIN, 60), 2 ** 60)
        self.assertEqual(count_written(LOST, 60), 1)
        self.assertEqual(count_written(LATE, 60), 2 ** 59)
        self.assertEqual(count_written(Writer((((0, 0), (0, 1), (0, 3)),)), 60), 3 ** 60)
        self.assertEqual(count_written(Writer((((0, 0), (0, 1), (0, 0)),)), 60), 2 ** 60)

    def test_long_tuples(self):
        for writer in writers_of_all_kinds(10, 3) + [NEVER_17, FOUR_WRITTEN, LATEST]:
            for many in (9, 20, 33, 59, 60):
                self.assertEqual(count_written(writer, many), count_by_suffix(writer, many), (writer.table, many))

    def test_rows_that_are_written_alike_count_once(self):
        for writer, counts in ((LOST, [1, 1, 1, 1]), (LOST_LATER, [1, 1, 2, 3]), (LAST, [1, 1, 2, 4])):
            self.assertEqual([count_written(writer, many) for many in range(4)], counts)
            self.assertEqual([len(written_in(writer, many)) for many in range(4)], counts)

    def test_values_that_are_no_size(self):
        for many in (-1, 61, 100, None, True, False, "1", "", (), (2,), [2], {}, {2: 2}):
            with self.assertRaises(BadSize):
                count_written(LATE, many)


class FirstMore(unittest.TestCase):
    def test_examples(self):
        self.assertEqual([first_more(PLAIN, LATE), first_more(LATE, PLAIN)], [(1,), None])

    def assert_first_more(self, one, other, longest):
        told = first_more(one, other)
        if told is None or len(told) > longest:
            self.assertIsNone(slow_first_more(one, other, longest), (one.table, other.table))
        else:
            self.assertEqual(told, slow_first_more(one, other, longest), (one.table, other.table))
        return told

    def test_all_pairs_of_some_small_writers(self):
        writers = [Writer(table) for table in all_tables(1, 2, 2) + all_tables(2, 2, 2)[::9]]
        lengths = set()
        for one, other in itertools.product(writers, writers):
            # There are at most 3 sets of stands of each, none left out, so that 9 letters are enough.
            told = self.assert_first_more(one, other, 9 if len(one) + len(other) < 4 else 6)
            lengths.add(None if told is None else len(told))
        self.assertLessEqual({None, 1, 2, 3}, lengths)

    def test_nearly_alike(self):
        lengths = set()
        for seed, writer in enumerate(writers_of_all_kinds(11, 8)):
            other = nearly(writer, seed)
            for told in (self.assert_first_more(writer, other, 6), self.assert_first_more(other, writer, 6)):
                lengths.add(None if told is None else len(told))
        self.assertLessEqual({None, 1, 2, 3}, lengths)

    def test_unlike_numbers_of_letters(self):
        found = set()
        twos, threes = some_writers(51, 150, 3, 2), some_writers(52, 150, 3, 3)
        for two, three in zip(twos, threes, strict=True):
            found.add(self.assert_first_more(two, three, 5) is None)
            self.assert_first_more(three, two, 5)
        self.assertEqual(found, {True, False})

    def test_writers_that_write_the_same(self):
        for seed, writer in enumerate(writers_of_all_kinds(12, 8)):
            for other in (writer, renumbered(writer, seed), smallest(writer)):
                self.assertIsNone(first_more(writer, other))
                self.assertIsNone(first_more(other, writer))
            if len(writer) < 6:
                self.assertIsNone(first_more(writer, doubled(writer, seed)))

    def test_the_same_tuples_for_other_rows(self):
        other = Writer((((0, 1), (0, 0)),))
        self.assertEqual([first_more(PLAIN, other), first_more(other, PLAIN)], [None, None])
        self.assertIsNone(first_more(Writer((((0, 1), (0, 0), (0, 1)),)), PLAIN))

    def test_the_least_of_the_shortest(self):
        one = Writer((((1, 0), (2, 1)), ((3, 0), (3, 1)), ((3, 0), (3, 1)), ((3, 0), (3, 1))))
        other = Writer((((1, 0), (2, 1)), ((3, 0), (3, 0)), ((2, 1), (2, 1)), ((3, 1), (3, 1))))
        self.assertEqual(first_more(one, other), (0, 1))

    def test_what_one_cannot_write_does_not_count(self):
        self.assertIsNone(first_more(LOST, PLAIN))
        self.assertEqual(first_more(PLAIN, LOST), (1,))
        self.assertEqual(first_more(Writer((((0, 3), (0, 3)),)), PLAIN), (3,))
        self.assertIsNone(first_more(LOST, LATE))

    def test_what_writes_all_has_more_where_least_never_says(self):
        for writer in writers_of_all_kinds(13, 6):
            for letters, every in ((1, LOST), (2, PLAIN), (3, Writer((((0, 0), (0, 1), (0, 2)),)))):
                self.assertEqual(first_more(every, writer), least_never(writer, letters))
        self.assertEqual(first_more(PLAIN, NEVER_17), least_never(NEVER_17, 2))

    def test_large_writers(self):
        for one, other in itertools.product(writers_of_all_kinds(14, 1), writers_of_all_kinds(15, 1)):
            told = first_more(one, other)
            if told is None:
                for row in all_rows(one, 6):
                    self.assertTrue(can_write(other, run(one, 0, row)[0]))
            else:
                self.assertTrue(can_write(one, told))
                self.assertFalse(can_write(other, told))
                self.assertTrue(can_write(other, told[:-1]))


if __name__ == "__main__":
    unittest.main()
