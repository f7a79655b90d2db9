import itertools
import unittest

from samples import (
    LAST, LATE, LATEST, LATEST_OF_3, LOST, LOST_LATER, PLAIN, all_rows, all_tables, doubled, nearly, reached,
    renumbered, run, some_writers, writers_of_all_kinds,
)
from wroteback.errors import NotComparable, NotFitting, TooMany
from wroteback.judging import word
from wroteback.likes import first_unlike, joined, smallest
from wroteback.writers import Writer, write_row

# (one, other, how many stands the joined writer needs)
JOINED = [
    ((((0, 1), (0, 1)), ((2, 1), (0, 1)), ((0, 0), (0, 0))), (((0, 1), (0, 1)), ((0, 0), (0, 0))), 1),
    ((((1, 1), (1, 0)), ((1, 0), (1, 0)), ((2, 1), (0, 0))), (((1, 0), (0, 0)), ((1, 1), (0, 1))), 3),
    ((((1, 1), (1, 0)), ((2, 1), (1, 0)), ((0, 0), (2, 0))), (((1, 0), (0, 0)), ((0, 1), (0, 1))), 6),
    (
        (((1, 0), (1, 0)), ((1, 1), (2, 0)), ((0, 0), (0, 0))),
        (((1, 1), (2, 1)), ((3, 1), (0, 1)), ((1, 0), (3, 0)), ((3, 1), (1, 1))), 7,
    ),
    (
        (((1, 1), (1, 0)), ((2, 1), (0, 1)), ((2, 1), (0, 0))),
        (((2, 0), (3, 0)), ((3, 1), (0, 1)), ((0, 0), (1, 1)), ((3, 1), (2, 1))), 12,
    ),
]
LONG_ROWS = [(0,) * 60, (1,) * 60, (0, 1) * 30, (1, 1, 0) * 20, tuple((at * at + at // 3) % 2 for at in range(60))]


def cycle(written):
    """A writer that goes round, whatever it reads."""
    many = len(written)
    return Writer(tuple((((at + 1) % many, wrote),) * 2 for at, wrote in enumerate(written)))


def slow_first_unlike(one, other):
    """By trying all rows; stands of two writers that write unlike do so in fewer letters than both have stands."""
    for many in range(1, len(one) + len(other)):
        for row in all_rows(one, many):
            if run(one, 0, row)[0] != run(other, 0, row)[0]:
                return row
    return None


def slow_stands(writer):
    """How many stands are needed: how many write unlike from there on."""
    rows = all_rows(writer, len(writer))
    return len({tuple(run(writer, stand, row)[0] for row in rows) for stand in reached(writer)})


def slow_joined_stands(one, other):
    """How many stands are needed: how many pairs of stands that write unlike from there on."""
    states = [(0, 0)]
    for left, right in states:
        for behind, wrote in one.table[left]:
            state = (behind, other.table[right][wrote][0])
            if state not in states:
                states.append(state)
    found = set()
    for left, right in states:
        rows = all_rows(one, len(states) - 1)
        found.add(tuple(run(other, right, run(one, left, row)[0])[0] for row in rows))
    return len(found)


def is_numbered_as_come_to(writer):
    """Whether stand by stand, letters ascending, the stands are come to in the order of their numbers."""
    known = [0]
    for row in writer.table:
        for behind, _ in row:
            if behind not in known:
                known.append(behind)
    return known == list(range(len(writer)))


class FirstUnlike(unittest.TestCase):
    def test_examples(self):
        self.assertEqual(first_unlike(LATE, PLAIN), (1,))
        self.assertIsNone(first_unlike(LATE, LATE))

    def test_all_writers_of_2_stands(self):
        writers = [Writer(table) for table in all_tables(2, 2, 2)]
        for one in writers[::5]:
            for other in writers[::7] + [PLAIN, LOST]:
                self.assertEqual(first_unlike(one, other), slow_first_unlike(one, other), (one.table, other.table))

    def test_nearly_alike(self):
        lengths = set()
        for seed, writer in enumerate(writers_of_all_kinds(1, 6)):
            if writer.letters == 2 or len(writer) < 4:
                for further in range(3):
                    other = nearly(writer, seed + 1000 * further)
                    told = first_unlike(writer, other)
                    lengths.add(None if told is None else len(told))
                    self.assertEqual(told, slow_first_unlike(writer, other), (writer.table, other.table))
                    self.assertEqual(told, first_unlike(other, writer))
        self.assertLessEqual({None, 1, 2, 3, 4}, lengths)

    def test_writers_that_write_the_same(self):
        for seed, writer in enumerate(writers_of_all_kinds(2, 8)):
            self.assertIsNone(first_unlike(writer, writer))
            self.assertIsNone(first_unlike(writer, renumbered(writer, seed)))
            self.assertIsNone(first_unlike(writer, smallest(writer)))
            if len(writer) < 6:
                self.assertIsNone(first_unlike(writer, doubled(writer, seed)))

    def test_the_least_of_the_shortest(self):
        # (0, 0, 0) is less, but longer than (0, 1), and (1, 0) as long, but greater.
        one = Writer((((1, 0), (1, 0)), ((2, 0), (2, 0)), ((2, 0), (2, 0))))
        other = Writer((((1, 0), (1, 0)), ((2, 0), (2, 1)), ((2, 1), (2, 0))))
        self.assertEqual(first_unlike(one, other), (0, 1))

    def test_three_letters(self):
        one = Writer((((0, 0), (1, 1), (0, 2)), ((0, 0), (1, 1), (0, 2))))
        other = Writer((((0, 0), (1, 1), (0, 2)), ((0, 0), (1, 1), (0, 3))))
        self.assertEqual(first_unlike(one, other), (1, 2))

    def test_long_rows(self):
        self.assertEqual(first_unlike(cycle((0, 0, 0, 0, 1)), cycle((0, 0, 0, 0, 1, 0))), (0,) * 10)
        self.assertIsNone(first_unlike(cycle((0, 1)), cycle((0, 1, 0, 1, 0, 1))))
        self.assertEqual(first_unlike(cycle((0, 1, 1)), cycle((0, 1, 1, 0, 1, 0))), (0,) * 6)

    def test_stands_that_are_not_come_to_do_not_count(self):
        one = Writer((((0, 0), (0, 1)), ((1, 0), (1, 0))))
        self.assertIsNone(first_unlike(one, PLAIN))
        self.assertIsNone(first_unlike(one, Writer((((0, 0), (0, 1)), ((1, 3), (0, 3))))))

    def test_not_comparable(self):
        for two, three in itertools.product(some_writers(43, 5, 4, 2) + [LAST, PLAIN], some_writers(44, 5, 4, 3)):
            for one, other in ((two, three), (three, two)):
                with self.assertRaises(NotComparable):
                    first_unlike(one, other)

    def test_not_comparable_though_alike_for_the_letters_of_both(self):
        with self.assertRaises(NotComparable):
            first_unlike(PLAIN, Writer((((0, 0), (0, 1), (0, 2)),)))


class Smallest(unittest.TestCase):
    def assert_smallest(self, writer):
        told = smallest(writer)
        self.assertIs(type(told), Writer)
        self.assertEqual(told.letters, writer.letters)
        self.assertIsNone(slow_first_unlike(told, writer), writer.table)
        self.assertTrue(is_numbered_as_come_to(told), writer.table)
        self.assertLessEqual(len(told), len(reached(writer)))
        self.assertTrue(smallest(told) == told)
        return told

    def test_example(self):
        self.assertEqual(smallest(Writer((((1, 0), (1, 1)), ((0, 0), (0, 1))))).table, (((0, 0), (0, 1)),))

    def test_all_writers_of_1_and_2_stands(self):
        ones = [Writer(table) for table in all_tables(1, 2, 2)]
        for table in all_tables(1, 2, 2) + all_tables(2, 2, 2):
            writer = Writer(table)
            alike = [one for one in ones if slow_first_unlike(one, writer) is None]
            told = self.assert_smallest(writer)
            self.assertEqual(len(told), 1 if alike else 2, table)
            if alike:
                self.assertEqual(told.table, alike[0].table)

    def test_no_writer_with_fewer_stands_writes_the_same(self):
        fewer = [Writer(table) for stands in (1, 2) for table in all_tables(stands, 2, 2)]
        sizes = set()
        for table in all_tables(3, 2, 2)[::457]:
            writer = Writer(table)
            sizes_alike = [len(one) for one in fewer if slow_first_unlike(one, writer) is None]
            told = self.assert_smallest(writer)
            self.assertEqual(len(told), min(sizes_alike, default=3), table)
            sizes.add(len(told))
        self.assertEqual(sizes, {1, 2, 3})

    def test_one_writer_for_all_that_write_the_same(self):
        for seed, writer in enumerate(writers_of_all_kinds(4, 8)):
            told = smallest(writer)
            self.assertEqual(smallest(renumbered(writer, seed)).table, told.table)
            if len(writer) < 6:
                self.assertEqual(smallest(doubled(writer, seed)).table, told.table)
            if len(writer) < 5:
                self.assertEqual(smallest(doubled(doubled(writer, seed), seed + 1)).table, told.table)

    def test_writers_of_all_kinds(self):
        words = set()
        for writer in writers_of_all_kinds(5, 5):
            if writer.letters == 2 or len(writer) < 4:
                self.assertEqual(len(self.assert_smallest(writer)), slow_stands(writer), writer.table)
                words.add(word(writer))
        self.assertEqual(words, {"soon", "last", "lost"})

    def test_its_own_smallest_one(self):
        for writer in (PLAIN, LOST, LATE, LOST_LATER, cycle((0, 0, 1)), cycle((3, 1, 1, 1, 1, 1))):
            self.assertEqual(smallest(writer).table, writer.table)
            self.assertTrue(smallest(writer) == writer)

    def test_of_the_fewest_stands_but_in_another_order(self):
        writer = Writer((((2, 0), (1, 0)), ((0, 2), (1, 0)), ((1, 1), (2, 3))))
        self.assertEqual(smallest(writer).table, (((1, 0), (2, 0)), ((2, 1), (1, 3)), ((0, 2), (2, 0))))

    def test_numbered_stand_by_stand_and_not_letter_by_letter(self):
        # The stand 0 leads to 3 and then to 1; the stand 3 leads to 2, and 1 to 4, which leads to 5.
        writer = Writer((
            ((3, 0), (1, 0)), ((4, 1), (0, 0)), ((0, 2), (0, 0)), ((2, 3), (2, 3)), ((5, 1), (4, 2)), ((5, 3), (0, 0)),
        ))
        self.assertEqual(smallest(writer).table, (
            ((1, 0), (2, 0)), ((3, 3), (3, 3)), ((4, 1), (0, 0)), ((0, 2), (0, 0)), ((5, 1), (4, 2)), ((5, 3), (0, 0)),
        ))

    def test_unlike_stands_that_write_the_same_become_one(self):
        self.assertEqual(smallest(LAST).table, (((1, 0), (1, 0)), ((1, 0), (1, 1))))

    def test_stands_that_are_not_come_to_go(self):
        self.assertTrue(smallest(Writer((((0, 0), (0, 1)), ((1, 0), (1, 0))))) == PLAIN)
        self.assertTrue(smallest(Writer((((2, 0), (0, 1)), ((1, 3), (1, 3)), ((0, 1), (2, 0))))) == Writer(
            (((1, 0), (0, 1)), ((0, 1), (1, 0)))
        ))

    def test_six_stands_to_one(self):
        self.assertTrue(smallest(Writer(tuple(((at, 0), ((at + 1) % 6, 1)) for at in range(6)))) == PLAIN)

    def test_stands_that_part_late(self):
        self.assertEqual(len(smallest(cycle((0, 0, 0, 0, 0, 1)))), 6)
        self.assertEqual(smallest(cycle((0, 1, 0, 1, 0, 1))).table, cycle((0, 1)).table)
        self.assertEqual(smallest(cycle((2, 1, 0, 2, 1, 0))).table, cycle((2, 1, 0)).table)

    def test_the_writer_is_not_changed(self):
        for writer in (LATE, LATEST, LATEST_OF_3):
            table = writer.table
            smallest(writer)
            self.assertEqual(writer.table, table)


class Joined(unittest.TestCase):
    def assert_joined(self, one, other):
        told = joined(one, other)
        self.assertIs(type(told), Writer)
        self.assertEqual(told.letters, one.letters)
        self.assertTrue(is_numbered_as_come_to(told))
        for row in all_rows(one, 7 if one.letters == 2 else 5):
            self.assertEqual(run(told, 0, row)[0], run(other, 0, run(one, 0, row)[0])[0], (one.table, other.table))
        for row in LONG_ROWS:
            self.assertEqual(write_row(told, row), write_row(other, write_row(one, row)))
        self.assertTrue(smallest(told) == told)
        return told

    def test_examples(self):
        self.assertEqual(
            joined(LATE, LATE).table,
            (((0, 0), (1, 0)), ((2, 0), (3, 0)), ((0, 1), (1, 1)), ((2, 1), (3, 1))),
        )
        self.assert_joined(LATE, LATE)

    def test_all_pairs_of_some_small_writers(self):
        writers = [Writer(table) for table in all_tables(1, 2, 2) + all_tables(2, 2, 2)[::11]]
        for one, other in itertools.product(writers, writers):
            told = self.assert_joined(one, other)
            self.assertEqual(len(told), slow_joined_stands(one, other), (one.table, other.table))

    def test_some_larger_writers(self):
        fits, needed = 0, set()
        for one, other in zip(some_writers(41, 400, 3, 2), some_writers(42, 400, 3, 3), strict=True):
            written = {one.table[stand][letter][1] for stand in reached(one) for letter in range(2)}
            if max(written) > 2:
                with self.assertRaises(NotFitting):
                    joined(one, other)
                continue
            fits += 1
            many = slow_joined_stands(one, other)
            needed.add(many)
            if many > 6:
                with self.assertRaises(TooMany):
                    joined(one, other)
            else:
                self.assertEqual(len(self.assert_joined(one, other)), many)
        self.assertGreater(fits, 100)
        self.assertLessEqual({1, 2, 3, 4, 5, 6, 7}, needed)

    def test_three_letters(self):
        one = Writer((((1, 0), (0, 2), (0, 1)), ((0, 1), (1, 0), (1, 2))))
        other = Writer((((0, 3), (1, 0), (0, 1)), ((1, 2), (0, 0), (0, 3))))
        self.assertEqual(len(self.assert_joined(one, other)), slow_joined_stands(one, other))

    def test_unlike_numbers_of_letters(self):
        two = Writer((((1, 2), (0, 0)), ((0, 1), (1, 0))))
        three = Writer((((0, 1), (1, 0), (0, 1)), ((1, 0), (1, 1), (0, 1))))
        self.assertEqual(self.assert_joined(two, three).letters, 2)
        self.assertEqual(self.assert_joined(three, LATE).letters, 3)

    def test_6_stands_and_7(self):
        for table, behind, many in JOINED:
            one, other = Writer(table), Writer(behind)
            self.assertEqual(slow_joined_stands(one, other), many)
            if many <= 6:
                self.assertEqual(len(self.assert_joined(one, other)), many)
            else:
                with self.assertRaises(TooMany):
                    joined(one, other)

    def test_many_pairs_of_stands_but_few_that_are_needed(self):
        # 30 pairs of stands are come to, and all of them write the same.
        one = Writer(tuple(((at, 0), ((at + 1) % 6, 1)) for at in range(6)))
        other = Writer(tuple((((at + 1) % 5, 0), (at, 1)) for at in range(5)))
        self.assertEqual(joined(one, other).table, PLAIN.table)
        self.assertEqual(joined(cycle((0, 1, 0, 1, 0, 1)), cycle((0, 0, 0, 0))).table, (((0, 0), (0, 0)),))

    def test_cycles(self):
        with self.assertRaises(TooMany):
            joined(cycle((0, 0, 1)), Writer((((1, 0), (0, 0)), ((2, 1), (1, 0)), ((0, 2), (2, 0)))))
        with self.assertRaises(TooMany):
            joined(cycle((0, 0, 0, 0, 0, 1)), Writer((((0, 0), (1, 0)), ((1, 0), (0, 1)))))
        self.assertEqual(len(joined(cycle((0, 0, 1)), Writer((((0, 0), (1, 0)), ((1, 0), (0, 1)))))), 6)

    def test_a_letter_that_does_not_fit(self):
        two = Writer((((0, 0), (0, 2)),))
        three = Writer((((0, 0), (0, 1), (0, 3)),))
        self.assertEqual(joined(two, three).table, (((0, 0), (0, 3)),))
        for one, other in ((two, PLAIN), (two, LATE), (three, PLAIN), (three, three), (LATEST, three), (LATEST, LATE)):
            with self.assertRaises(NotFitting):
                joined(one, other)

    def test_a_letter_that_does_not_fit_in_a_later_stand(self):
        one = Writer((((1, 0), (0, 1)), ((2, 0), (0, 0)), ((0, 0), (0, 2))))
        with self.assertRaises(NotFitting):
            joined(one, PLAIN)

    def test_a_step_that_cannot_be_come_to_need_not_fit(self):
        one = Writer((((0, 0), (0, 1)), ((0, 2), (1, 3))))
        self.assertEqual(joined(one, PLAIN).table, PLAIN.table)
        self.assertEqual(joined(Writer((((2, 0), (0, 1)), ((1, 3), (2, 3)), ((0, 1), (0, 0)))), PLAIN).table, (
            ((1, 0), (0, 1)), ((0, 1), (0, 0)),
        ))

    def test_not_fitting_comes_before_too_many(self):
        table, behind, _ = JOINED[-1]
        one = Writer(table + (((0, 0), (0, 2)),))
        with self.assertRaises(TooMany):
            joined(one, Writer(behind))
        one = Writer(table[:-1] + (((2, 1), (3, 0)), ((0, 0), (0, 2))))
        with self.assertRaises(NotFitting):
            joined(one, Writer(behind))

    def test_one_and_other_are_not_the_same(self):
        one, other = Writer((((0, 1), (0, 0)),)), LATE
        self.assertEqual(joined(one, other).table, (((1, 0), (0, 0)), ((1, 1), (0, 1))))
        self.assertEqual(joined(other, one).table, (((0, 1), (1, 1)), ((0, 0), (1, 0))))


if __name__ == "__main__":
    unittest.main()
