"""How many small writers there are of each kind."""

from wroteback.checks import check_size
from wroteback.judging import word
from wroteback.tables import all_tables
from wroteback.writers import Writer


def census(stands, written):
    """Return for how many tables with two letters, so many stands and so many written letters word is each word."""
    check_size(stands, 1, 2)
    check_size(written, 1, 2)
    words = [word(Writer(table)) for table in all_tables(stands, written)]
    return (words.count("soon"), words.count("last"), words.count("lost"))
