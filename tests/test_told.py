import itertools
import random
import unittest

from samples import LATE, LOST, LOST_LATER, PLAIN, all_tables, common_beginning, run
from wroteback.errors import BadRow, BadSeen, BadSize
from wroteback.told import sure_next, tables_for
from wroteback.writers import Writer, write_row

SEEN = [((1, 1), (0, 1))]
LONG = tuple((at * at + at // 3) % 2 for at in range(20))
NO_SIZES = [-1, 0, 3, 60, None, True, False, "1", "", (), (1,), [1], {}, {1: 1}]
NO_THINGS = [
    None, True, False, 0, 1, -1, "", "ab", [], {}, {(0,): (0,)}, (), ((0,),), ((0,), (0,), (0,)), [(0,), (0,)],
    ([0], (0,)), ((0,), [0]), ("0", "0"), ("0", (0,)), ((0,), "0"), (None, None), ((0,), None), (0, 0), ((0,), 0),
    ((0,), ()), ((), (0,)), ((0, 1), (0,)), ((0,), (0, 1)), ((0,) * 21, (0,) * 21), ((0,) * 20, (0,) * 21),
    ((0,) * 21, (0,) * 20), ((2,), (0,)), ((0,), (2,)), ((-1,), (0,)), ((0,), (-1,)), ((True,), (0,)), ((0,), (True,)),
    ((False,), (0,)), ((0,), (False,)), ((None,), (0,)), ((0,), ("0",)), (((0,),), (0,)), (([0],), (0,)),
    ((0,), ({},)), ((0, 0, 3), (0, 0, 0)), ({}, {}), ({0: 0}, {0: 0}),
]
NO_ROWS = [
    None, True, False, 0, 1, "", "01", [], [0, 1], {}, {0: 1}, (0,) * 21, (2,), (-1,), (0, 2), (0, True), (False,),
    (0, None), ("0",), ((),), ((0,),), ([0],), ({},), (3,) * 21,
]


def slow_tables(stands, seen):
    return [
        table for table in sorted(all_tables(stands, 2, 2))
        if all(run(Writer(table), 0, row)[0] == written for row, written in seen)
    ]


def slow_next(stands, seen, row):
    return common_beginning([run(Writer(table), 0, row)[0] for table in slow_tables(stands, seen)])


def seen_of(table, chance, many, longest):
    """What a writer is seen to write for so many rows."""
    writer = Writer(table)
    rows = [tuple(chance.randrange(2) for _ in range(chance.randint(0, longest))) for _ in range(many)]
    return [(row, write_row(writer, row)) for row in rows]


class TablesFor(unittest.TestCase):
    def test_examples(self):
        self.assertEqual(tables_for(1, [((0, 1), (0, 1))]), [(((0, 0), (0, 1)),)])
        self.assertEqual(tables_for(1, [((0, 0), (0, 1))]), [])
        self.assertEqual(len(tables_for(2, SEEN)), 32)

    def test_all_tables(self):
        # Where nothing is read, all tables write what was seen.
        self.assertEqual(tables_for(1, [((), ())]), sorted(all_tables(1, 2, 2)))
        self.assertEqual(tables_for(2, [((), ())]), sorted(all_tables(2, 2, 2)))
        self.assertEqual([len(tables_for(stands, [((), ())])) for stands in (1, 2)], [4, 256])

    def test_stands_1_and_2(self):
        for row in itertools.product((0, 1), repeat=3):
            for written in itertools.product((0, 1), repeat=3):
                for stands in (1, 2):
                    seen = [(row, written)]
                    self.assertEqual(tables_for(stands, seen), slow_tables(stands, seen))

    def test_tables_of_2_stands_count_though_one_is_not_come_to(self):
        found = tables_for(2, [((0, 1), (0, 1))])
        for row in itertools.product(itertools.product((0, 1), repeat=2), repeat=2):
            self.assertIn((((0, 0), (0, 1)), row), found)
        self.assertTrue(all(len(table) == 2 for table in found))

    def test_what_some_writers_wrote(self):
        chance = random.Random(31)
        sizes = set()
        for table in all_tables(1, 2, 2) + all_tables(2, 2, 2)[::3]:
            seen = seen_of(table, chance, chance.randint(1, 10), chance.choice((2, 5, 20)))
            found = tables_for(len(table), seen)
            sizes.add(len(found))
            self.assertIn(table, found)
            self.assertEqual(found, slow_tables(len(table), seen))
            self.assertEqual(tables_for(len(table), tuple(seen)), found)
            self.assertEqual(found, sorted(set(found)))
        self.assertLessEqual({1, 2}, sizes)

    def test_all_that_was_seen_counts(self):
        seen = [((0,), (0,)), ((1,), (1,)), ((1, 0), (1, 1))]
        for many in (1, 2, 3):
            self.assertEqual(tables_for(2, seen[:many]), slow_tables(2, seen[:many]))
        self.assertEqual(tables_for(1, seen), [])
        self.assertEqual(tables_for(1, seen[:2]), [PLAIN.table])

    def test_what_was_seen_but_not_by_one_writer(self):
        self.assertEqual(tables_for(2, [((0,), (0,)), ((0,), (1,))]), [])
        self.assertEqual(tables_for(2, [((0, 0, 0, 0), (0, 0, 1, 0))]), [])

    def test_seen_1_and_10_and_0_and_11(self):
        for many in (1, 10):
            self.assertEqual(tables_for(2, SEEN * many), tables_for(2, SEEN))
            self.assertEqual(tables_for(2, tuple(SEEN * many)), tables_for(2, SEEN))
        for many in (0, 11):
            for seen in (SEEN * many, tuple(SEEN * many), [None] * many):
                self.assert_bad_seen(seen, None)

    def test_rows_of_0_20_and_21_letters(self):
        for writer in (PLAIN, LOST, LATE, LOST_LATER):
            seen = [(LONG, write_row(writer, LONG))]
            found = tables_for(len(writer), seen)
            self.assertIn(writer.table, found)
            self.assertEqual(found, slow_tables(len(writer), seen))
            self.assertEqual(tables_for(len(writer), seen + [((), ())]), found)
        self.assert_bad_seen([((0,) * 21, (0,) * 21)], 0)

    def test_unlike_numbers_of_letters_in_unlike_rows(self):
        seen = [((), ()), ((0,), (0,)), ((1, 0, 1), (1, 0, 1))]
        self.assertEqual(tables_for(1, seen), [PLAIN.table])

    def assert_bad_seen(self, seen, index):
        for stands in (1, 2):
            for call in (lambda: tables_for(stands, seen), lambda: sure_next(stands, seen, (0,))):
                with self.assertRaises(BadSeen) as caught:
                    call()
                self.assertEqual(caught.exception.index, index, seen)
                self.assertIs(type(caught.exception.index), type(index), seen)

    def test_values_that_are_nothing_seen(self):
        for seen in (None, True, False, 0, 1, -1, "", "ab", {}, {0: SEEN[0]}, {SEEN[0]: 0}, (), []):
            self.assert_bad_seen(seen, None)

    def test_things_that_were_not_seen(self):
        for thing in NO_THINGS:
            self.assert_bad_seen([thing], 0)
            self.assert_bad_seen((thing,), 0)
            self.assert_bad_seen(SEEN + [thing], 1)
            self.assert_bad_seen(SEEN * 9 + [thing], 9)

    def test_the_first_wrong_thing_is_named(self):
        self.assert_bad_seen(SEEN + [None, 0, SEEN[0], ((2,), (0,))], 1)
        self.assert_bad_seen([None] * 11, None)
        # What follows is wrong, though no table writes what comes before it.
        self.assert_bad_seen([((0,), (0,)), ((0,), (1,)), None], 2)

    def test_values_that_are_no_size(self):
        for stands in NO_SIZES:
            for seen in (SEEN, [], None, [None]):
                with self.assertRaises(BadSize):
                    tables_for(stands, seen)

    def test_lists_are_new_and_nothing_is_modified(self):
        seen = list(SEEN)
        found = tables_for(2, seen)
        found.clear()
        self.assertEqual(len(tables_for(2, seen)), 32)
        self.assertEqual(seen, SEEN)
        self.assertIs(type(found), list)
        wrong = [((1,), (0,)), [0]]
        with self.assertRaises(BadSeen):
            tables_for(2, wrong)
        self.assertEqual(wrong, [((1,), (0,)), [0]])


class SureNext(unittest.TestCase):
    def test_examples(self):
        self.assertEqual(sure_next(1, [((0, 1), (0, 1))], (1, 1, 0)), (1, 1, 0))
        self.assertEqual(sure_next(2, SEEN, (1, 1, 1)), (0, 1))

    def test_against_all_tables(self):
        lengths = set()
        rows = [row for many in (0, 1, 3, 5) for row in itertools.product((0, 1), repeat=many)]
        for seen in (
            SEEN, [((0,), (1,))], [((), ())], [((1, 1, 0, 1), (0, 1, 0, 0))], [((0, 0), (0, 1)), ((1, 0), (1, 1))],
            [((1, 0, 1, 1, 0), (0, 0, 0, 1, 1)), ((0, 0, 1), (1, 1, 0))], [((0, 1, 0), (0, 1, 1))],
        ):
            for stands in (1, 2):
                for row in rows:
                    told = sure_next(stands, seen, row)
                    lengths.add(None if told is None else len(told))
                    self.assertEqual(told, slow_next(stands, seen, row), (stands, seen, row))
        self.assertEqual(lengths, {None, 0, 1, 2, 3, 4, 5})

    def test_what_some_writers_wrote(self):
        chance = random.Random(32)
        for table in all_tables(1, 2, 2) + all_tables(2, 2, 2)[::9]:
            seen = seen_of(table, chance, chance.randint(1, 10), chance.choice((2, 4, 20)))
            for row in (LONG, (), (0,) * 20, tuple(chance.randrange(2) for _ in range(7))):
                told = sure_next(len(table), seen, row)
                self.assertEqual(told, slow_next(len(table), seen, row))
                self.assertEqual(told, write_row(Writer(table), row)[:len(told)])

    def test_rows_that_part_and_meet_again(self):
        seen = [((0, 1, 0), (0, 0, 0)), ((1,), (0,))]
        row = (1, 1, 0)
        self.assertEqual({run(Writer(table), 0, row)[0] for table in slow_tables(2, seen)}, {(0, 0, 0), (0, 1, 0)})
        self.assertEqual(sure_next(2, seen, row), (0,))

    def test_none_without_tables(self):
        for row in ((), (0,), LONG):
            self.assertIsNone(sure_next(1, [((0, 0), (0, 1))], row))
            self.assertIsNone(sure_next(2, [((0,), (0,)), ((0,), (1,))], row))

    def test_rows_of_0_20_and_21_letters(self):
        self.assertEqual(sure_next(1, [((0, 1), (0, 1))], ()), ())
        self.assertEqual(sure_next(1, [((0, 1), (0, 1))], LONG), LONG)
        with self.assertRaises(BadRow):
            sure_next(1, [((0, 1), (0, 1))], LONG + (0,))

    def test_values_that_are_no_row(self):
        for row in NO_ROWS:
            for stands, seen in ((1, [((0, 1), (0, 1))]), (2, SEEN), (1, [((0, 0), (0, 1))])):
                with self.assertRaises(BadRow) as caught:
                    sure_next(stands, seen, row)
                self.assertIsNone(caught.exception.index, row)

    def test_several_things_wrong_at_once(self):
        for row in ((0,), None, (2,), (0,) * 21):
            for stands in NO_SIZES:
                for seen in (SEEN, None, [], [None]):
                    with self.assertRaises(BadSize):
                        sure_next(stands, seen, row)
            for seen, index in ((None, None), ([], None), (SEEN * 11, None), ([None], 0), (SEEN + [True], 1)):
                with self.assertRaises(BadSeen) as caught:
                    sure_next(2, seen, row)
                self.assertEqual(caught.exception.index, index)

    def test_kinds_and_nothing_modified(self):
        seen = list(SEEN)
        self.assertIs(type(sure_next(2, seen, (1, 1, 1))), tuple)
        self.assertEqual(seen, SEEN)
        self.assertEqual(sure_next(2, seen, (1, 1, 1)), sure_next(2, tuple(seen), (1, 1, 1)))


if __name__ == "__main__":
    unittest.main()
