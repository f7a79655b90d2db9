"""Writers to test with, and slow answers that follow the words of the document."""

import itertools
import random

from wroteback.writers import Writer

LATE = Writer((((0, 0), (1, 0)), ((0, 1), (1, 1))))
PLAIN = Writer((((0, 0), (0, 1)),))
LOST = Writer((((0, 0), (0, 0)),))
LOST_LATER = Writer((((0, 0), (1, 0)), ((0, 1), (1, 0))))
LAST = Writer((((1, 0), (2, 0)), ((1, 0), (1, 1)), ((2, 0), (2, 1))))
# In these three all pairs of unlike stands are come to, one behind the other: no delay is greater.
LATEST_OF_3 = Writer((((1, 2), (0, 0)), ((0, 1), (2, 0)), ((2, 1), (1, 1))))
LATEST_OF_4 = Writer((((1, 2), (3, 0)), ((3, 1), (0, 0)), ((0, 2), (1, 1)), ((3, 2), (2, 2))))
LATEST = Writer((
    ((1, 3), (1, 0)), ((5, 0), (2, 3)), ((2, 0), (0, 0)), ((4, 1), (3, 3)), ((5, 3), (3, 0)), ((2, 1), (4, 0)),
))


def all_tables(stands, letters, written):
    steps = list(itertools.product(range(stands), range(written)))
    rows = list(itertools.product(steps, repeat=letters))
    return list(itertools.product(rows, repeat=stands))


def some_writers(seed, many, stands, letters):
    """So many writers, the same ones for the same seed."""
    chance = random.Random(seed)
    found = []
    for _ in range(many):
        written = chance.randint(1, 4)
        found.append(Writer(tuple(
            tuple((chance.randrange(stands), chance.randrange(written)) for _ in range(letters))
            for _ in range(stands)
        )))
    return found


def small_writers():
    """Writers small enough to be judged by trying all rows."""
    found = [LATE, PLAIN, LOST, LOST_LATER, LAST, LATEST_OF_3, LATEST_OF_4]
    found += [Writer(table) for table in all_tables(1, 2, 4) + all_tables(1, 3, 3) + all_tables(2, 2, 2)]
    found += some_writers(1, 200, 2, 3) + some_writers(2, 500, 3, 2) + some_writers(3, 100, 3, 3)
    return found + some_writers(4, 150, 4, 2)


def large_writers():
    """Writers too large for trying all long rows."""
    found = [LATEST]
    for stands in (4, 5, 6):
        found += some_writers(20 + stands, 15, stands, 2) + some_writers(30 + stands, 15, stands, 3)
    return found


def run(writer, stand, row):
    """What is written for a row from a stand on, and the stand in which it ends."""
    written = []
    for letter in row:
        stand, wrote = writer.table[stand][letter]
        written.append(wrote)
    return tuple(written), stand


def all_rows(writer, many):
    return list(itertools.product(range(writer.letters), repeat=many))


def rows_by_written(writer, stand, many):
    """For all that is written in so many letters from a stand on, the ascending list of the rows."""
    groups = {}
    for row in all_rows(writer, many):
        groups.setdefault(run(writer, stand, row)[0], []).append(row)
    return groups


def all_written(many):
    return list(itertools.product(range(4), repeat=many))


def common_beginning(rows):
    """The longest beginning of all rows, None if there are none."""
    if not rows:
        return None
    many = 0
    while many < len(rows[0]) and all(row[many] == rows[0][many] for row in rows):
        many += 1
    return rows[0][:many]


def reached(writer):
    """The stands to which the writer can come."""
    return sorted({run(writer, 0, row)[1] for many in range(len(writer)) for row in all_rows(writer, many)})


def most_pairs(writer):
    """How many pairs of unlike stands there are."""
    return len(writer) * (len(writer) - 1) // 2


def written_alike(writer, stand, many):
    """All tuples of two rows, the first letter of the first one being less, that are written alike."""
    groups = rows_by_written(writer, stand, many).values()
    return [(one, other) for rows in groups for one in rows for other in rows if one[0] < other[0]]


def slow_delay(writer):
    """The delay, by trying all rows; with a delay no pair comes again, so that it is not above their number."""
    for least in range(most_pairs(writer) + 1):
        if not any(written_alike(writer, stand, least + 1) for stand in reached(writer)):
            return least
    return None


def slow_lost_rows(writer):
    """The least two of the shortest unlike rows that are written and end alike, None if there are none."""
    longest = len(writer) - 1 + 1 + most_pairs(writer)
    for many in range(1, longest + 1):
        groups = {}
        for row in all_rows(writer, many):
            groups.setdefault(run(writer, 0, row), []).append(row)
        # Rows come in ascending order, so that the first two of a group are its least ones.
        found = [(rows[0], rows[1]) for rows in groups.values() if len(rows) > 1]
        if found:
            return min(found)
    return None


def slow_pairs(writer):
    """The pairs to which rows lead that are unlike in the first letter and written alike."""
    found = set()
    for stand in reached(writer):
        for many in range(1, most_pairs(writer) + 2):
            for one, other in written_alike(writer, stand, many):
                found.add(tuple(sorted([run(writer, stand, one)[1], run(writer, stand, other)[1]])))
    return sorted(found)


def slow_rank(writer, pair):
    """The number of letters of the longest rows that are written alike from both stands on."""
    many = 0
    while True:
        ones = {run(writer, pair[0], row)[0] for row in all_rows(writer, many + 1)}
        others = {run(writer, pair[1], row)[0] for row in all_rows(writer, many + 1)}
        if not ones & others:
            return many
        many += 1


def written_in(writer, many):
    """All that the writer can write in so many letters."""
    return {run(writer, 0, row)[0] for row in all_rows(writer, many)}


def places_unlike(one, other):
    """At how many places two tuples of one length differ."""
    return sum(left != right for left, right in zip(one, other, strict=True))


def nearly(writer, seed):
    """The writer with one of its steps changed."""
    chance = random.Random(seed)
    table = [list(row) for row in writer.table]
    stand, letter = chance.randrange(len(writer)), chance.randrange(writer.letters)
    behind, wrote = table[stand][letter]
    if chance.random() < 0.5:
        table[stand][letter] = (chance.randrange(len(writer)), wrote)
    else:
        table[stand][letter] = (behind, (wrote + chance.randint(1, 3)) % 4)
    return Writer(tuple(map(tuple, table)))


def renumbered(writer, seed):
    """A writer that writes the same, its stands but 0 in another order."""
    chance = random.Random(seed)
    order = [0] + chance.sample(range(1, len(writer)), len(writer) - 1)
    return Writer(tuple(
        tuple((order.index(behind), wrote) for behind, wrote in writer.table[stand]) for stand in order
    ))


def doubled(writer, seed):
    """A writer that writes the same, with one stand more, to which some steps lead in the place of its twin."""
    chance = random.Random(seed)
    twin = chance.randrange(len(writer))
    rows = writer.table + (writer.table[twin],)
    return Writer(tuple(
        tuple((len(writer) if behind == twin and chance.random() < 0.5 else behind, wrote) for behind, wrote in row)
        for row in rows
    ))


def writers_of_all_kinds(seed, many):
    """So many writers of each number of stands and of letters, and some of each word."""
    found = [LATE, PLAIN, LOST, LOST_LATER, LAST, LATEST_OF_3, LATEST_OF_4]
    for stands in range(1, 7):
        for letters in (2, 3):
            found += some_writers(seed * 100 + stands * 10 + letters, many, stands, letters)
    return found
