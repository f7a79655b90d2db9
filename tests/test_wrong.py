import itertools
import unittest

from samples import (
    LAST, LATE, LATEST, LATEST_OF_3, LATEST_OF_4, LOST, LOST_LATER, PLAIN, all_rows, all_tables, all_written,
    large_writers, places_unlike, reached, renumbered, rows_by_written, run, some_writers, writers_of_all_kinds,
    written_in,
)
from wroteback.errors import BadSize, BadWritten
from wroteback.judging import alike, delay, word
from wroteback.reading import count_rows
from wroteback.wrong import fewest_wrong, gap, letters_for, mended, whole_gap
from wroteback.writers import Writer, write_row

TWICE = Writer((((0, 0), (1, 3)), ((0, 2), (1, 1))))
# In these the rows keep apart at three places, however they go on.
APART = Writer((
    ((1, 1), (4, 2)), ((2, 2), (0, 3)), ((3, 3), (5, 2)), ((5, 0), (3, 2)), ((1, 0), (4, 1)), ((0, 0), (2, 3)),
))
APART_SOON = Writer((
    ((2, 2), (3, 3)), ((3, 2), (5, 1)), ((2, 3), (3, 2)), ((0, 1), (5, 3)), ((5, 1), (3, 2)), ((5, 1), (0, 0)),
))
# (a value that is nothing seen, the index of BadWritten)
BAD_SEEN = [
    (None, None), (True, None), (False, None), (0, None), (-1, None), ("", None), ("01", None), ([], None),
    ([0, 1], None), ({}, None), ({0: 1}, None), ((0,) * 61, None), ((9,) * 61, None), ([None, True], None),
    ((4,), 0), ((-1,), 0), ((0, 4), 1), ((0, True), 1), ((False, 0), 0), ((0, 0, None), 2), (("0",), 0), (("",), 0),
    (((),), 0), (((0,), 0), 0), ((0, [1]), 1), ((0, {}), 1), ((0,) * 59 + (4,), 59), ((0, 1, 9, None, True), 2),
]
NO_SIZES = [-1, 61, 100, None, True, False, "1", "", (), (1,), [1], {}, {1: 1}]


def seen_of(many):
    return [
        (0,) * many, (1, 2, 3, 0) * (many // 4) + (1,) * (many % 4),
        tuple((at * at + at // 3) % 2 for at in range(many)), tuple((at * at + at // 5) % 4 for at in range(many)),
    ]


def slow_fewest(writer, seen):
    """By going forward from the stand 0, stand by stand."""
    fewest = {0: 0}
    for letter in seen:
        further = {}
        for stand, wrong in fewest.items():
            for behind, wrote in writer.table[stand]:
                put = wrong + (wrote != letter)
                further[behind] = min(put, further.get(behind, put))
        fewest = further
    return min(fewest.values())


def slow_gap(writer, many):
    """By trying all pairs of rows."""
    found = []
    for stand in reached(writer):
        written = [(row, run(writer, stand, row)[0]) for row in all_rows(writer, many)]
        for (one, left), (other, right) in itertools.combinations(written, 2):
            if one[0] != other[0]:
                found.append(places_unlike(left, right))
    return min(found)


def gaps_forward(writer, longest):
    """The gaps for 1 letter up to so many, by going forward from the first letters on."""
    costs = {}
    for stand in reached(writer):
        for step, twin in itertools.combinations(writer.table[stand], 2):
            put = int(step[1] != twin[1])
            pair = (step[0], twin[0])
            costs[pair] = min(put, costs.get(pair, put))
    gaps = [min(costs.values())]
    while len(gaps) < longest:
        further = {}
        for (left, right), cost in costs.items():
            for step, twin in itertools.product(writer.table[left], writer.table[right]):
                put = cost + (step[1] != twin[1])
                pair = (step[0], twin[0])
                further[pair] = min(put, further.get(pair, put))
        costs = further
        gaps.append(min(costs.values()))
    return gaps


def slow_whole_gap(writer):
    """The cost of the cheapest way to a pair from which rows write alike for ever."""
    pairs = list(itertools.product(range(len(writer)), repeat=2))
    steps = {
        pair: [
            (int(step[1] != twin[1]), (step[0], twin[0]))
            for step, twin in itertools.product(writer.table[pair[0]], writer.table[pair[1]])
        ] for pair in pairs
    }
    calm = set(pairs)
    for _ in pairs:
        calm = {pair for pair in calm if any(cost == 0 and behind in calm for cost, behind in steps[pair])}
    costs = {pair: 0 if pair in calm else 1000 for pair in pairs}
    for _ in pairs:
        costs = {pair: min([costs[pair]] + [cost + costs[behind] for cost, behind in steps[pair]]) for pair in pairs}
    firsts = [
        (step, twin) for stand in reached(writer) for step, twin in itertools.combinations(writer.table[stand], 2)
    ]
    return min(int(step[1] != twin[1]) + costs[step[0], twin[0]] for step, twin in firsts)


class Seen(unittest.TestCase):
    def test_examples(self):
        self.assertEqual([fewest_wrong(LATE, (1, 0, 1)), mended(LATE, (1, 0, 1))], [1, (0, 1, 0)])
        self.assertEqual(fewest_wrong(LATE, ()), 0)

    def test_against_all_rows(self):
        words, fewest = set(), set()
        for writer in writers_of_all_kinds(17, 2) + [Writer(table) for table in all_tables(2, 2, 2)[::7]]:
            words.add(word(writer))
            for many in range(5):
                rows = [(run(writer, 0, row)[0], row) for row in all_rows(writer, many)]
                for seen in all_written(many)[::3]:
                    told = min((places_unlike(written, seen), row) for written, row in rows)
                    fewest.add(told[0])
                    self.assertEqual((fewest_wrong(writer, seen), mended(writer, seen)), told, (writer.table, seen))
        self.assertEqual(words, {"soon", "last", "lost"})
        self.assertEqual(fewest, {0, 1, 2, 3, 4})

    def test_longer_rows_against_all_rows(self):
        for writer in writers_of_all_kinds(18, 2):
            many = 9 if writer.letters == 2 else 6
            rows = [(run(writer, 0, row)[0], row) for row in all_rows(writer, many)]
            for seen in seen_of(many):
                told = min((places_unlike(written, seen), row) for written, row in rows)
                self.assertEqual((fewest_wrong(writer, seen), mended(writer, seen)), told, (writer.table, seen))

    def test_nothing_seen(self):
        for writer in writers_of_all_kinds(19, 1):
            self.assertEqual([fewest_wrong(writer, ()), mended(writer, ())], [0, ()])

    def test_60_letters(self):
        for writer in writers_of_all_kinds(20, 3) + [LATEST, TWICE]:
            for many in (20, 59, 60):
                for seen in seen_of(many):
                    told = fewest_wrong(writer, seen)
                    self.assertEqual(told, slow_fewest(writer, seen), writer.table)
                    row = mended(writer, seen)
                    self.assertEqual(len(row), many)
                    self.assertEqual(places_unlike(write_row(writer, row), seen), told)
        self.assertEqual([fewest_wrong(PLAIN, (2,) * 60), mended(PLAIN, (2,) * 60)], [60, (0,) * 60])
        self.assertEqual([fewest_wrong(LOST, (1,) * 30 + (0,) * 30), mended(LOST, (0,) * 60)], [30, (0,) * 60])

    def test_61_letters(self):
        for function in (fewest_wrong, mended):
            with self.assertRaises(BadWritten) as caught:
                function(LATE, (0,) * 61)
            self.assertIsNone(caught.exception.index)

    def test_the_row_of_60_letters_is_the_least(self):
        # With another letter less at any place, more of what is written would be wrong.
        for writer in writers_of_all_kinds(21, 2):
            for seen in seen_of(60):
                row = mended(writer, seen)
                told = fewest_wrong(writer, seen)
                wrong = 0
                stand = 0
                for at, letter in enumerate(row):
                    for less in range(letter):
                        behind, wrote = writer.table[stand][less]
                        put = wrong + (wrote != seen[at])
                        moved = Writer(tuple(renumbered_from(writer, behind)))
                        self.assertGreater(put + slow_fewest(moved, seen[at + 1:]), told)
                    stand, wrote = writer.table[stand][letter]
                    wrong += wrote != seen[at]

    def test_right_letters_are_mended_to_what_was_read(self):
        for writer in writers_of_all_kinds(22, 4):
            for row in all_rows(writer, 4):
                written = run(writer, 0, row)[0]
                self.assertEqual(fewest_wrong(writer, written), 0)
                self.assertEqual(mended(writer, written), rows_by_written(writer, 0, 4)[written][0])

    def test_no_letter_is_wrong_where_it_can_be_written(self):
        for writer in writers_of_all_kinds(23, 3):
            known = written_in(writer, 4)
            for seen in all_written(4)[::2]:
                self.assertEqual(fewest_wrong(writer, seen) == 0, seen in known)
                self.assertEqual(fewest_wrong(writer, seen) == 0, count_rows(writer, seen) > 0)

    def test_the_first_of_the_best_letters_is_not_always_the_next_right_one(self):
        # It pays to be wrong in the first letter: 0 leads where 2 is never written.
        writer = Writer((((1, 0), (2, 1)), ((1, 0), (1, 0)), ((2, 2), (2, 2))))
        self.assertEqual([fewest_wrong(writer, (0, 2, 2)), mended(writer, (0, 2, 2))], [1, (1, 0, 0)])
        self.assertEqual([fewest_wrong(writer, (0, 2)), mended(writer, (0, 2))], [1, (0, 0)])

    def test_values_that_were_not_seen(self):
        for function in (fewest_wrong, mended):
            for writer in (LATE, PLAIN, LATEST):
                for value, index in BAD_SEEN:
                    with self.assertRaises(BadWritten) as caught:
                        function(writer, value)
                    self.assertEqual(caught.exception.index, index, value)
                    self.assertIs(type(caught.exception.index), type(index), value)

    def test_lists_are_not_modified(self):
        value = [0, 1]
        with self.assertRaises(BadWritten):
            mended(LATE, value)
        self.assertEqual(value, [0, 1])


def renumbered_from(writer, start):
    """The rows of a table that begins in another stand: this one and the stand 0 change places."""
    order = list(range(len(writer)))
    order[0], order[start] = start, 0
    return [tuple((order[behind], wrote) for behind, wrote in writer.table[stand]) for stand in order]


class Gaps(unittest.TestCase):
    def test_examples(self):
        self.assertEqual([[gap(LATE, many) for many in (1, 2, 3)], whole_gap(LATE)], [[0, 1, 1], 1])
        self.assertEqual([[gap(TWICE, many) for many in (1, 2, 3)], whole_gap(TWICE)], [[1, 2, 2], 2])

    def test_against_all_rows(self):
        words, found = set(), set()
        for writer in writers_of_all_kinds(24, 3) + [Writer(table) for table in all_tables(2, 2, 2)]:
            words.add(word(writer))
            for many in range(1, 6 if writer.letters == 2 else 4):
                found.add(gap(writer, many))
                self.assertEqual(gap(writer, many), slow_gap(writer, many), (writer.table, many))
        self.assertEqual(words, {"soon", "last", "lost"})
        self.assertLessEqual({0, 1}, found)

    def test_gaps_above_1_against_all_rows(self):
        for writer in (TWICE, APART_SOON):
            for many in range(1, 8):
                self.assertEqual(gap(writer, many), slow_gap(writer, many))
        self.assertEqual([gap(APART, many) for many in range(1, 14)], [1] * 4 + [2] * 7 + [3] * 2)
        self.assertEqual([gap(APART_SOON, many) for many in range(1, 8)], [1, 1, 2, 2, 2, 3, 3])

    def test_many_1_and_60(self):
        self.assertEqual([gap(PLAIN, 1), gap(PLAIN, 60)], [1, 1])
        self.assertEqual([gap(LOST, 1), gap(LOST, 60)], [0, 0])
        for writer in writers_of_all_kinds(25, 6) + [LATEST, LATEST_OF_3, LATEST_OF_4, TWICE, APART, APART_SOON]:
            gaps = gaps_forward(writer, 60)
            for many in (1, 2, 9, 17, 59, 60):
                self.assertEqual(gap(writer, many), gaps[many - 1], (writer.table, many))

    def test_values_that_are_no_size(self):
        for many in NO_SIZES + [0]:
            with self.assertRaises(BadSize):
                gap(LATE, many)

    def test_only_stands_to_which_it_can_come_count(self):
        writer = Writer((((0, 0), (0, 1)), ((1, 0), (1, 0))))
        self.assertEqual([gap(writer, 1), gap(writer, 60), whole_gap(writer), letters_for(writer, 0)], [1, 1, 1, 1])

    def test_all_stands_to_which_it_can_come_count(self):
        writer = Writer((((0, 0), (1, 1)), ((1, 2), (1, 2))))
        self.assertEqual([gap(writer, 1), gap(writer, 60), whole_gap(writer), letters_for(writer, 0)], [0, 0, 0, None])

    def test_the_gap_is_above_0_where_no_rows_are_written_alike(self):
        for writer in writers_of_all_kinds(26, 5):
            for many in (1, 2, 3, 16, 60):
                told = any(alike(writer, stand, many) for stand in reached(writer))
                self.assertEqual(gap(writer, many) == 0, told, (writer.table, many))

    def test_the_whole_gap_is_the_greatest(self):
        found = set()
        writers = writers_of_all_kinds(27, 8) + large_writers() + [Writer(table) for table in all_tables(2, 2, 2)]
        for writer in writers + [LATEST, LATEST_OF_3, LATEST_OF_4, TWICE, APART, APART_SOON]:
            told = whole_gap(writer)
            found.add(told)
            self.assertEqual(told, slow_whole_gap(writer), writer.table)
            # Within so many letters each place that is written unlike is come to.
            self.assertEqual(told, gaps_forward(writer, 400)[-1], writer.table)
            self.assertLessEqual(gap(writer, 60), told)
        self.assertLessEqual({0, 1, 2, 3}, found)

    def test_rows_that_never_come_to_one_stand(self):
        # From the stand 0 on they keep apart for ever, but from 1 and 2 on they do not.
        writer = Writer((((1, 0), (2, 0)), ((1, 0), (1, 1)), ((2, 2), (2, 3))))
        self.assertEqual([gap(writer, 1), gap(writer, 2), gap(writer, 60), whole_gap(writer)], [0, 1, 1, 1])

    def test_the_whole_gap_is_above_0_with_a_delay_alone(self):
        for writer in writers_of_all_kinds(28, 10):
            self.assertEqual(whole_gap(writer) > 0, delay(writer) is not None, writer.table)


class LettersFor(unittest.TestCase):
    def test_examples(self):
        self.assertEqual([letters_for(LATE, 0), letters_for(TWICE, 0), letters_for(TWICE, 1)], [2, 1, None])

    def test_the_least_number_of_letters(self):
        found = set()
        writers = writers_of_all_kinds(29, 8) + large_writers() + some_writers(53, 300, 6, 2)
        for writer in writers + [LATEST, LATEST_OF_3, LATEST_OF_4, TWICE, APART, APART_SOON]:
            gaps = gaps_forward(writer, 200)
            for wrong in (0, 1, 2, 10):
                many = [at + 1 for at, told in enumerate(gaps) if told > 2 * wrong]
                found.add(letters_for(writer, wrong))
                self.assertEqual(letters_for(writer, wrong), min(many, default=None), (writer.table, wrong))
        self.assertLessEqual({None, 1, 2, 3, 4, 12, 16}, found)

    def test_wrong_0_and_10(self):
        for writer in writers_of_all_kinds(30, 5) + [LATEST, LATEST_OF_4, APART]:
            late = delay(writer)
            self.assertEqual(letters_for(writer, 0), None if late is None else late + 1, writer.table)
            self.assertIsNone(letters_for(writer, 10))

    def test_wrong_1(self):
        self.assertEqual([letters_for(APART, 1), letters_for(APART_SOON, 1)], [12, 6])
        self.assertEqual([letters_for(APART, 2), letters_for(APART_SOON, 2)], [None, None])

    def test_so_many_letters_tell_the_first_one(self):
        rows = all_rows(APART_SOON, 6)
        for stand in reached(APART_SOON):
            for row in rows[::5]:
                written = run(APART_SOON, stand, row)[0]
                for at in range(6):
                    seen = written[:at] + ((written[at] + 1) % 4,) + written[at + 1:]
                    near = [other[0] for other in rows if places_unlike(run(APART_SOON, stand, other)[0], seen) <= 1]
                    self.assertEqual(set(near), {row[0]})

    def test_values_that_are_no_size(self):
        for wrong in NO_SIZES + [11, 60]:
            for writer in (LATE, LOST):
                with self.assertRaises(BadSize):
                    letters_for(writer, wrong)

    def test_other_words_have_none(self):
        for writer in (LOST, LOST_LATER, LAST):
            self.assertEqual([letters_for(writer, wrong) for wrong in range(11)], [None] * 11)


if __name__ == "__main__":
    unittest.main()
