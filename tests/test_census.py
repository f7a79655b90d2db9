import unittest

from samples import all_tables, slow_delay, slow_lost_rows
from wroteback.census import census
from wroteback.errors import BadSize
from wroteback.writers import Writer


def slow_census(stands, written):
    """The numbers of tables, each judged by trying all rows."""
    counts = {"soon": 0, "last": 0, "lost": 0}
    for table in all_tables(stands, 2, written):
        writer = Writer(table)
        if slow_delay(writer) is not None:
            counts["soon"] += 1
        elif slow_lost_rows(writer) is not None:
            counts["lost"] += 1
        else:
            counts["last"] += 1
    return (counts["soon"], counts["last"], counts["lost"])


class Census(unittest.TestCase):
    def test_examples(self):
        self.assertEqual([census(1, 1), census(1, 2)], [(0, 0, 1), (2, 0, 2)])

    def test_against_all_rows(self):
        for stands in (1, 2):
            for written in (1, 2):
                self.assertEqual(census(stands, written), slow_census(stands, written))

    def test_all_tables_are_counted(self):
        for stands in (1, 2):
            for written in (1, 2):
                self.assertEqual(sum(census(stands, written)), (stands * written) ** (2 * stands))

    def test_kinds_and_repeated_calls(self):
        self.assertIs(type(census(2, 2)), tuple)
        self.assertEqual([type(number) for number in census(2, 2)], [int, int, int])
        self.assertEqual(census(2, 2), census(2, 2))

    def test_other_values(self):
        for value in (-1, 0, 3, 60, None, True, False, "1", "", (), (1,), [1], {}, {1: 1}):
            for stands, written in ((value, 1), (value, 2), (1, value), (2, value), (value, value)):
                with self.assertRaises(BadSize):
                    census(stands, written)


if __name__ == "__main__":
    unittest.main()
