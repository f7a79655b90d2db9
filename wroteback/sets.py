"""What a writer can write at all, for some row however long it is.

All rows that write the same are followed at once, by the ascending tuple of the stands in which they end.
"""

from wroteback.checks import GREATEST_WRITTEN, LONGEST, check_size
from wroteback.ways import least_way

# Before anything is written, the writer is in the stand 0.
START = (0,)


def _behind(table, stands, wrote):
    return tuple(sorted({step[0] for stand in stands for step in table[stand] if step[1] == wrote}))


def _all_behind(table, stands, letters):
    return [_behind(table, stands, wrote) for wrote in range(letters)]


def least_never(writer, letters):
    """Return the least of the shortest tuples of written letters below letters that a writer cannot write.

    Return None if there is none.
    """
    check_size(letters, 1, GREATEST_WRITTEN + 1)
    return least_way(START, lambda stands: _leads_while_written(writer.table, stands, letters))


def _leads_while_written(table, stands, letters):
    return [behind if behind else None for behind in _all_behind(table, stands, letters)]


def count_written(writer, many):
    """Return the number of unlike tuples of so many letters that a writer can write."""
    check_size(many, 0, LONGEST)
    counts = {START: 1}
    for _ in range(many):
        counts = _counts_behind(writer.table, counts)
    return sum(counts.values())


def _counts_behind(table, counts):
    found = {}
    for stands in counts:
        for behind in _all_behind(table, stands, GREATEST_WRITTEN + 1):
            if behind:
                found[behind] = found.get(behind, 0) + counts[stands]
    return found


def first_more(one, other):
    """Return the least of the shortest tuples that the writer one can write, and the writer other cannot.

    Return None if there is none.
    """
    return least_way((START, START), lambda both: _leads_while_no_more(one.table, other.table, both))


def _leads_while_no_more(table, twin, both):
    ones = _all_behind(table, both[0], GREATEST_WRITTEN + 1)
    others = _all_behind(twin, both[1], GREATEST_WRITTEN + 1)
    return [None if left and not right else (left, right) for left, right in zip(ones, others)]
