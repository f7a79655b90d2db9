"""Writers, and what they write."""

from wroteback.checks import GREATEST_WRITTEN, LONGEST, first_outside, is_between, is_tuple_of
from wroteback.errors import BadRow, BadTable

MOST_STANDS = 6
LEAST_LETTERS = 2
MOST_LETTERS = 3


class Writer:
    """A machine that reads letters, and writes one for each."""

    def __init__(self, table):
        _check_table(table)
        self._table = table

    @property
    def table(self):
        """Its table: for each stand, for each letter, the next stand and what is written."""
        return self._table

    @property
    def letters(self):
        """How many letters it reads."""
        return len(self._table[0])

    def __len__(self):
        return len(self._table)

    def __eq__(self, other):
        return isinstance(other, Writer) and self._table == other._table


def _is_step(value, stands):
    if not is_tuple_of(value, 2, 2):
        return False
    return is_between(value[0], 0, stands - 1) and is_between(value[1], 0, GREATEST_WRITTEN)


def _is_table_row(value, stands):
    if not is_tuple_of(value, LEAST_LETTERS, MOST_LETTERS):
        return False
    return all([_is_step(step, stands) for step in value])


def _check_table(table):
    if not is_tuple_of(table, 1, MOST_STANDS):
        raise BadTable(None)
    for index, row in enumerate(table):
        if not _is_table_row(row, len(table)) or len(row) != len(table[0]):
            raise BadTable(index)


def _check_row(writer, row):
    if not is_tuple_of(row, 0, LONGEST):
        raise BadRow(None)
    index = first_outside(row, writer.letters - 1)
    if index is not None:
        raise BadRow(index)


def stands_of(writer, row):
    """Return the list of the stands to which a row of letters leads, 0 first."""
    _check_row(writer, row)
    stands = [0]
    for letter in row:
        stands.append(writer.table[stands[-1]][letter][0])
    return stands


def write_row(writer, row):
    """Return the tuple that is written for a row of letters."""
    stands = stands_of(writer, row)
    return tuple([writer.table[stand][letter][1] for stand, letter in zip(stands, row)])
