"""A reader, which is told what is written letter by letter."""

from wroteback.checks import GREATEST_WRITTEN, LONGEST, is_between
from wroteback.errors import BadWritten, Full, NoRow
from wroteback.rows import count_ends, sure_letters


class Reader:
    """What is known of a row of letters while it is written."""

    def __init__(self, writer):
        self._writer = writer
        self._written = ()

    @property
    def writer(self):
        """The writer whose written letters it is told."""
        return self._writer

    @property
    def written(self):
        """The tuple of the written letters that it has been told."""
        return self._written

    def __len__(self):
        return len(self._written)

    def tell(self, letter):
        """Tell it the next written letter, and return the letters read that are sure now, and were not."""
        if not is_between(letter, 0, GREATEST_WRITTEN):
            raise BadWritten(len(self._written))
        if len(self._written) == LONGEST:
            raise Full("a reader is told at most 60 letters")
        told = (*self._written, letter)
        row = sure_letters(self._writer.table, told)
        if row is None:
            raise NoRow("no row is written so")
        before = len(self.sure())
        self._written = told
        return row[before:]

    def sure(self):
        """Return the tuple of the letters read that are sure."""
        return sure_letters(self._writer.table, self._written)

    def stands(self):
        """Return the ascending list of the stands in which the writer can be."""
        return sorted(count_ends(self._writer.table, 0, self._written))

    def undo(self):
        """Take back the last letter that it was told, and return whether there was one."""
        if not self._written:
            return False
        self._written = self._written[:-1]
        return True

    def copy(self):
        """Return an independent reader that stands as this one."""
        twin = Reader(self._writer)
        twin._written = self._written
        return twin
