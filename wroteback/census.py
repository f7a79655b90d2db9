"""How many small writers there are of each kind."""

from wroteback.checks import is_between
from wroteback.errors import BadSize
from wroteback.judging import word
from wroteback.writers import Writer


def census(stands, written):
    """Return for how many tables with two letters, so many stands and so many written letters word is each word."""
    if not is_between(stands, 1, 2) or not is_between(written, 1, 2):
        raise BadSize("there are 1 or 2 stands and written letters")
    words = [word(Writer(table)) for table in _all_tables(stands, written)]
    return (words.count("soon"), words.count("last"), words.count("lost"))


def _all_tables(stands, written):
    steps = [(behind, wrote) for behind in range(stands) for wrote in range(written)]
    rows = [(one, other) for one in steps for other in steps]
    tables = [()]
    for _ in range(stands):
        tables = [(*table, row) for table in tables for row in rows]
    return tables
