"""Small writers told by what they wrote."""

from wroteback.checks import check_size, first_outside, is_tuple_of
from wroteback.errors import BadRow, BadSeen
from wroteback.tables import all_tables
from wroteback.writers import Writer, write_row

MOST_SEEN = 10
MOST_LETTERS_SEEN = 20
# They read and write just the letters 0 and 1.
GREATEST_LETTER = 1


def tables_for(stands, seen):
    """Return the ascending list of all tables with so many stands whose writers write as was seen."""
    check_size(stands, 1, 2)
    _check_seen(seen)
    tables = all_tables(stands, GREATEST_LETTER + 1)
    for row, written in seen:
        tables = [table for table in tables if write_row(Writer(table), row) == written]
    return tables


def sure_next(stands, seen, row):
    """Return the longest beginning of all that these tables write for a row, None if there is no such table."""
    tables = tables_for(stands, seen)
    if not _is_letters(row):
        raise BadRow(None)
    if not tables:
        return None
    return _common_beginning([write_row(Writer(table), row) for table in tables])


def _common_beginning(rows):
    beginning = []
    for letters in zip(*rows):
        if any([letter != letters[0] for letter in letters]):
            break
        beginning.append(letters[0])
    return tuple(beginning)


def _check_seen(seen):
    if not isinstance(seen, (list, tuple)) or not 1 <= len(seen) <= MOST_SEEN:
        raise BadSeen(None)
    for index, thing in enumerate(seen):
        if not _is_row_written(thing):
            raise BadSeen(index)


def _is_row_written(value):
    if not is_tuple_of(value, 2, 2):
        return False
    return _is_letters(value[0]) and _is_letters(value[1]) and len(value[0]) == len(value[1])


def _is_letters(value):
    return is_tuple_of(value, 0, MOST_LETTERS_SEEN) and first_outside(value, GREATEST_LETTER) is None
