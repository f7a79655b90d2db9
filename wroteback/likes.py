"""Writers that write alike: where two of them do not, the smallest one, and one behind the other."""

from wroteback.errors import NotComparable, NotFitting, TooMany
from wroteback.pairs import stands_come_to
from wroteback.ways import least_way, rows_in_order
from wroteback.writers import MOST_STANDS, Writer

# It writes what it reads, so that a table with this one behind it writes as it does alone.
COPYING = (((0, 0), (0, 1), (0, 2), (0, 3)),)


def first_unlike(one, other):
    """Return the least of the shortest rows for which two writers write unlike, None if there is none."""
    if one.letters != other.letters:
        raise NotComparable("the writers do not read equally many letters")
    return least_way((0, 0), lambda pair: _leads_while_alike(one.table, other.table, pair))


def _leads_while_alike(table, twin, pair):
    return [
        (one[0], other[0]) if one[1] == other[1] else None
        for one, other in zip(table[pair[0]], twin[pair[1]])
    ]


def smallest(writer):
    """Return the writer with the fewest stands that writes the same for all rows."""
    return Writer(_smallest_joined(writer.table, COPYING))


def joined(one, other):
    """Return the smallest writer that writes for each row what other writes for what one writes."""
    if not _is_fitting(one.table, other.letters):
        raise NotFitting("one writes a letter that other does not read")
    table = _smallest_joined(one.table, other.table)
    if len(table) > MOST_STANDS:
        raise TooMany("more stands are needed than a writer has")
    return Writer(table)


def _is_fitting(table, letters):
    return all([step[1] < letters for stand in stands_come_to(table) for step in table[stand]])


def _smallest_joined(table, behind):
    # The table with the fewest stands, however many, that writes what behind writes for what table writes.
    rows = rows_in_order((0, 0), lambda pair: _joined_row(table, behind, pair))
    kinds = _kinds_of(rows)
    # Kinds are numbered by their first states, and so in the order in which they are come to themselves.
    firsts = {}
    for state in rows:
        firsts.setdefault(kinds[state], rows[state])
    return tuple([tuple([(kinds[step[0]], step[1]) for step in row]) for row in firsts.values()])


def _joined_row(table, behind, pair):
    row = []
    for stand, wrote in table[pair[0]]:
        step = behind[pair[1]][wrote]
        row.append(((stand, step[0]), step[1]))
    return row


def _kinds_of(rows):
    # A dict of the numbers of the states, those being equal that write the same for all rows of letters.
    kinds = {state: 0 for state in rows}
    while True:
        further = _parted_further(rows, kinds)
        if further == kinds:
            return kinds
        kinds = further


def _parted_further(rows, kinds):
    # States stay of one kind if they write the same for one letter, and it leads to the same kinds.
    numbers = {}
    found = {}
    for state in rows:
        sign = (kinds[state], tuple([(kinds[step[0]], step[1]) for step in rows[state]]))
        found[state] = numbers.setdefault(sign, len(numbers))
    return found
