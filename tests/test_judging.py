import itertools
import unittest

from samples import (
    LAST, LATE, LATEST, LATEST_OF_3, LATEST_OF_4, LOST, LOST_LATER, PLAIN, all_tables, large_writers, most_pairs,
    reached, run, slow_delay, slow_lost_rows, slow_pairs, slow_rank, small_writers, some_writers, written_alike,
)
from wroteback.errors import BadSize, BadStand
from wroteback.judging import alike, delay, lost_rows, ranks, shows, word
from wroteback.writers import Writer

NO_SIZES = [-1, 61, 100, None, True, False, "1", "", (), (1,), [1], {}]


class Delays(unittest.TestCase):
    def test_examples(self):
        self.assertEqual([word(LATE), delay(LATE)], ["soon", 1])
        self.assertEqual([word(LOST), delay(LOST)], ["lost", None])
        self.assertEqual(word(LOST_LATER), "lost")
        self.assertEqual([word(LAST), delay(LAST)], ["last", None])

    def test_delay_0(self):
        self.assertEqual([word(PLAIN), delay(PLAIN)], ["soon", 0])

    def test_the_greatest_delay(self):
        self.assertEqual([word(LATEST), delay(LATEST)], ["soon", 15])
        self.assertEqual([delay(LATEST_OF_3), delay(LATEST_OF_4)], [3, 6])

    def test_stands_that_are_not_come_to_do_not_count(self):
        writer = Writer((((0, 0), (0, 1)), ((1, 0), (1, 0))))
        self.assertEqual([word(writer), delay(writer), ranks(writer)], ["soon", 0, []])

    def test_delay_against_all_rows(self):
        found = set()
        for writer in small_writers():
            found.add(delay(writer))
            self.assertEqual(delay(writer), slow_delay(writer), writer.table)
        self.assertLessEqual({None, 0, 1, 2, 3, 6}, found)

    def test_word_against_all_rows(self):
        found = set()
        for writer in small_writers():
            if slow_delay(writer) is not None:
                told = "soon"
            elif slow_lost_rows(writer) is not None:
                told = "lost"
            else:
                told = "last"
            found.add(told)
            self.assertEqual(word(writer), told, writer.table)
        self.assertEqual(found, {"soon", "last", "lost"})

    def test_delay_of_large_writers(self):
        for writer in large_writers():
            told = delay(writer)
            stands = reached(writer)
            if told is None:
                self.assertTrue(any(alike(writer, stand, 60) for stand in stands))
                continue
            self.assertLessEqual(told, 15)
            self.assertFalse(any(alike(writer, stand, told + 1) for stand in stands))
            self.assertTrue(told == 0 or any(alike(writer, stand, told) for stand in stands))


class Ranks(unittest.TestCase):
    def test_examples(self):
        self.assertEqual(ranks(LATE), [((0, 1), 0)])
        self.assertIsNone(ranks(LAST))
        self.assertIsNone(ranks(LOST))

    def test_no_pairs(self):
        self.assertEqual(ranks(PLAIN), [])

    def test_all_pairs_of_the_greatest_delay(self):
        told = ranks(LATEST)
        self.assertEqual([pair for pair, _ in told], list(itertools.combinations(range(6), 2)))
        self.assertEqual(sorted(rank for _, rank in told), list(range(15)))

    def test_against_all_rows(self):
        for writer in small_writers():
            if len(writer) < 4 and slow_delay(writer) is None:
                self.assertIsNone(ranks(writer), writer.table)
            elif len(writer) < 4:
                told = [(pair, slow_rank(writer, pair)) for pair in slow_pairs(writer)]
                self.assertEqual(ranks(writer), told, writer.table)

    def test_the_delay_is_above_the_ranks(self):
        for writer in small_writers() + large_writers():
            told = ranks(writer)
            if told is None:
                self.assertIsNone(delay(writer))
            else:
                self.assertEqual(delay(writer), 1 + max([rank for _, rank in told], default=-1))

    def test_lists_are_new(self):
        ranks(LATE).append(None)
        self.assertEqual(ranks(LATE), [((0, 1), 0)])


class Shows(unittest.TestCase):
    def test_example(self):
        self.assertIs(shows(LATE, 1, ranks(LATE)), True)

    def test_the_ranks_show_the_delay_and_no_less(self):
        for writer in small_writers() + large_writers():
            told = ranks(writer)
            if told is not None:
                for bound in (0, 1, 2, delay(writer), 59, 60):
                    self.assertIs(shows(writer, bound, told), delay(writer) <= bound, writer.table)
                    self.assertIs(shows(writer, bound, tuple(told[::-1])), delay(writer) <= bound, writer.table)

    def assert_some_value_shows(self, writer, bound):
        pairs = list(itertools.combinations_with_replacement(range(len(writer)), 2))
        shown = False
        for chosen in itertools.product([None, *range(bound)], repeat=len(pairs)):
            value = [(pair, rank) for pair, rank in zip(pairs, chosen) if rank is not None]
            shown = shown or shows(writer, bound, value)
        told = delay(writer)
        self.assertIs(shown, told is not None and told <= bound, writer.table)

    def test_there_is_a_value_just_where_the_delay_is_at_most_the_bound(self):
        for table in all_tables(2, 2, 2):
            for bound in (0, 1, 2):
                self.assert_some_value_shows(Writer(table), bound)
        for writer in some_writers(5, 40, 3, 2):
            self.assert_some_value_shows(writer, 2)

    def test_bounds_0_and_60(self):
        self.assertIs(shows(PLAIN, 0, []), True)
        self.assertIs(shows(PLAIN, 0, ()), True)
        self.assertIs(shows(LATE, 0, []), False)
        self.assertIs(shows(LATE, 0, [((0, 1), 0)]), False)
        self.assertIs(shows(LATE, 60, [((0, 1), 59)]), True)
        self.assertIs(shows(LATE, 60, [((0, 1), 60)]), False)

    def test_the_first_pairs_must_stand_in_it(self):
        self.assertIs(shows(LATE, 5, []), False)
        self.assertIs(shows(LATE, 5, ()), False)

    def test_what_a_pair_leads_to_must_stand_in_it_with_lesser_ranks(self):
        told = ranks(LATEST)
        for at in range(len(told)):
            self.assertIs(shows(LATEST, 15, told[:at] + told[at + 1:]), False)
        self.assertIs(shows(LATEST, 60, [(pair, rank * 4) for pair, rank in told]), True)
        self.assertIs(shows(LATEST, 60, [(pair, max(rank, 1)) for pair, rank in told]), False)
        self.assertIs(shows(LATEST, 60, [(pair, 0) for pair, _ in told]), False)

    def test_pairs_that_are_not_come_to_may_stand_in_it(self):
        writer = Writer((((0, 0), (0, 1)), ((1, 2), (1, 3))))
        self.assertIs(shows(writer, 1, [((0, 1), 0)]), True)
        self.assertIs(shows(writer, 1, [((-1, 0), 0)]), False)
        # From a stand and itself the same letters lead on for ever.
        self.assertIs(shows(writer, 60, [((1, 1), 5)]), False)
        self.assertIs(shows(writer, 60, [((0, 0), 5)]), False)

    def test_pairs_that_are_not_come_to_must_lead_down(self):
        writer = Writer((((0, 0), (0, 1)), ((2, 2), (2, 3)), ((1, 0), (1, 1))))
        self.assertIs(shows(writer, 3, [((0, 2), 1), ((0, 1), 0)]), True)
        self.assertIs(shows(writer, 3, [((0, 2), 1), ((0, 1), 1)]), False)
        self.assertIs(shows(writer, 3, [((0, 2), 1)]), False)

    def test_no_pair_twice(self):
        self.assertIs(shows(LATE, 5, [((0, 1), 0), ((0, 1), 0)]), False)
        self.assertIs(shows(LATE, 5, [((0, 1), 0), ((0, 1), 1)]), False)

    def test_values_of_other_kinds(self):
        pair = ((0, 1), 0)
        for value in (None, True, False, 0, 1, "", "ab", {}, {(0, 1): 0}, pair, (pair, None), [pair, 0], [list(pair)]):
            self.assertIs(shows(LATE, 5, value), False, value)
        for value in (None, True, 0, "", {}):
            self.assertIs(shows(PLAIN, 5, value), False, value)

    def test_things_of_other_kinds_in_the_value(self):
        for thing in (
            ((0, 1),), ((0, 1), 0, 0), ([0, 1], 0), ((0, 1, 1), 0), ((0,), 0), ((1, 0), 0), ((0, 2), 0), ((-1, 1), 0),
            ((False, 1), 0), ((0, True), 0), ((0, 1), False), ((0, 1), True), ((0, 1), -1), ((0, 1), 5), ((0, 1), None),
            ((0, 1), "0"), (("0", "1"), 0), ((None, None), 0), (None, 0), ("01", 0), (0, 1), "ab", {}, ((0, [1]), 0),
            ((0, {}), {}),
        ):
            self.assertIs(shows(LATE, 5, [thing]), False, thing)
            self.assertIs(shows(LATE, 5, [((0, 1), 0), thing]), False, thing)
            self.assertIs(shows(LATE, 5, (thing, ((0, 1), 0))), False, thing)

    def test_bounds_that_are_none(self):
        for bound in NO_SIZES:
            for value in ([((0, 1), 0)], None):
                with self.assertRaises(BadSize):
                    shows(LATE, bound, value)

    def test_the_value_is_not_modified(self):
        for value in ([((0, 1), 0)], [[(0, 1), 0]], [((0, 1), 0), None]):
            before = list(value)
            shows(LATE, 5, value)
            self.assertEqual(value, before)


class Alike(unittest.TestCase):
    def test_examples(self):
        self.assertEqual([alike(LATE, 0, 1), alike(LATE, 0, 2)], [((0,), (1,)), None])
        self.assertEqual(alike(LAST, 0, 3), ((0, 0, 0), (1, 0, 0)))

    def test_against_all_rows(self):
        for writer in small_writers():
            for stand in range(len(writer)):
                for many in range(1, 8 - 2 * (writer.letters - 1)):
                    told = min(written_alike(writer, stand, many), default=None)
                    self.assertEqual(alike(writer, stand, many), told, (writer.table, stand, many))

    def test_large_writers_against_all_rows(self):
        for writer in large_writers():
            for stand in range(len(writer)):
                told = min(written_alike(writer, stand, 4), default=None)
                self.assertEqual(alike(writer, stand, 4), told, (writer.table, stand))

    def test_the_first_row_is_least_whatever_the_second_one_is(self):
        # With 1 the second row could begin at once, but only 2 lets the first one go on by 0.
        writer = Writer((
            ((1, 0), (2, 0), (3, 0)), ((4, 1), (4, 2), (4, 2)), ((4, 2), (4, 2), (4, 2)), ((4, 1), (4, 1), (4, 1)),
            ((4, 0), (4, 0), (4, 0)),
        ))
        self.assertEqual(alike(writer, 0, 2), ((0, 0), (2, 0)))

    def test_many_1_and_60(self):
        self.assertEqual(alike(LOST, 0, 1), ((0,), (1,)))
        self.assertEqual(alike(LOST, 0, 60), ((0,) * 60, (1,) + (0,) * 59))
        self.assertEqual(alike(LAST, 0, 60), ((0,) * 60, (1,) + (0,) * 59))
        self.assertIsNone(alike(LAST, 1, 1))
        self.assertIsNone(alike(PLAIN, 0, 60))

    def test_60_letters_that_must_be_others(self):
        # The stands 1 and 2 write alike for unlike letters alone.
        writer = Writer((((1, 3), (2, 3)), ((1, 0), (1, 1)), ((2, 2), (2, 0))))
        self.assertEqual(alike(writer, 0, 60), ((0,) * 60, (1,) * 60))

    def test_60_letters_of_large_writers(self):
        for writer in large_writers():
            for stand in range(len(writer)):
                rows = alike(writer, stand, 60)
                if rows is not None:
                    one, other = rows
                    self.assertEqual([len(one), len(other)], [60, 60])
                    self.assertLess(one[0], other[0])
                    self.assertEqual(run(writer, stand, one)[0], run(writer, stand, other)[0])

    def test_the_least_rows_of_the_greatest_delay(self):
        found = [stand for stand in range(6) if alike(LATEST, stand, 15)]
        self.assertNotEqual(found, [])
        for stand in found:
            self.assertEqual(alike(LATEST, stand, 15), min(written_alike(LATEST, stand, 15)))

    def test_stands_that_are_not_come_to(self):
        writer = Writer((((0, 0), (0, 1)), ((1, 0), (1, 0))))
        self.assertEqual([alike(writer, 0, 1), alike(writer, 1, 1)], [None, ((0,), (1,))])

    def test_values_that_are_no_stand(self):
        for stand in (-1, 2, 6, None, True, False, "0", "", (), (0,), [0], {}):
            with self.assertRaises(BadStand):
                alike(LATE, stand, 1)

    def test_values_that_are_no_size(self):
        for many in NO_SIZES + [0]:
            with self.assertRaises(BadSize):
                alike(LATE, 0, many)

    def test_the_stand_is_named_first(self):
        for stand, many in ((2, 0), (True, True), (None, None), ("", 61)):
            with self.assertRaises(BadStand):
                alike(LATE, stand, many)


class LostRows(unittest.TestCase):
    def test_examples(self):
        self.assertEqual(lost_rows(LOST), ((0,), (1,)))
        self.assertEqual(lost_rows(LOST_LATER), ((0, 1), (1, 1)))
        self.assertIsNone(lost_rows(LAST))
        self.assertIsNone(lost_rows(LATE))
        self.assertIsNone(lost_rows(PLAIN))

    def test_against_all_rows(self):
        longest = 0
        for writer in small_writers():
            told = slow_lost_rows(writer)
            longest = max(longest, 0 if told is None else len(told[0]))
            self.assertEqual(lost_rows(writer), told, writer.table)
        self.assertGreater(longest, 4)

    def test_rows_of_large_writers(self):
        for writer in large_writers():
            told = lost_rows(writer)
            self.assertEqual(told is None, word(writer) != "lost")
            if told is not None:
                one, other = told
                self.assertLess(one, other)
                self.assertEqual(run(writer, 0, one), run(writer, 0, other))
                self.assertLessEqual(len(one), len(writer) + most_pairs(writer))

    def test_rows_that_part_late(self):
        # The stand 0 loses nothing, and 1 is come to by 1 alone.
        writer = Writer((((0, 0), (1, 1)), ((1, 2), (1, 2))))
        self.assertEqual(lost_rows(writer), ((1, 0), (1, 1)))


class AllFunctions(unittest.TestCase):
    def test_repeated_calls_give_equal_results(self):
        for writer in (LATE, LAST, LOST_LATER, LATEST):
            table = writer.table
            for function in (delay, word, ranks, lost_rows):
                self.assertEqual(function(writer), function(writer))
            self.assertEqual(alike(writer, 0, 9), alike(writer, 0, 9))
            self.assertEqual(writer.table, table)

    def test_an_error_changes_nothing(self):
        before = [delay(LATE), word(LATE), ranks(LATE), lost_rows(LATE), alike(LATE, 0, 1)]
        for call in (lambda: alike(LATE, 9, 1), lambda: alike(LATE, 0, 0), lambda: shows(LATE, -1, [])):
            with self.assertRaises(ValueError):
                call()
        self.assertEqual([delay(LATE), word(LATE), ranks(LATE), lost_rows(LATE), alike(LATE, 0, 1)], before)


if __name__ == "__main__":
    unittest.main()
