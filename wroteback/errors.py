"""The errors of this package."""


class WriterError(ValueError):
    """The base class of all errors here."""


class BadTable(WriterError):
    """No table: index tells the first thing in it that is wrong, None if all of it is."""

    def __init__(self, index):
        self.index = index


class BadRow(WriterError):
    """No row of letters: index tells the first thing in it that is wrong, None if all of it is."""

    def __init__(self, index):
        self.index = index


class BadWritten(WriterError):
    """Nothing that is written: index tells the first thing in it that is wrong, None if all of it is."""

    def __init__(self, index):
        self.index = index


class BadStand(WriterError):
    """No stand of the writer."""


class BadSize(WriterError):
    """No integer from the least to the greatest one that may stand there."""


class Late(WriterError):
    """The writer has no delay, or one that is too great."""


class NoRow(WriterError):
    """There is no row of letters for which this is written."""


class Full(WriterError):
    """The reader has been told as much as it can be."""


class InvalidText(WriterError):
    """No text of a writer: line and word, both counted from 1, tell where."""

    def __init__(self, line, word):
        self.line = line
        self.word = word


class NotComparable(WriterError):
    """The two writers do not read equally many letters."""


class NotFitting(WriterError):
    """One writer writes a letter that the other one does not read."""


class TooMany(WriterError):
    """More stands are needed than a writer can have."""


class BadSeen(WriterError):
    """Nothing that was seen: index tells the first thing in it that is wrong, None if all of it is."""

    def __init__(self, index):
        self.index = index
