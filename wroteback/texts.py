"""Writers as texts: a line for each stand."""

from wroteback.checks import GREATEST_WRITTEN
from wroteback.errors import InvalidText
from wroteback.writers import LEAST_LETTERS, MOST_LETTERS, MOST_STANDS, Writer

FIRST_WORD = "stand"


def write(writer):
    """Return the text of a writer."""
    return "\n".join([_line_of(row) for row in writer.table])


def _line_of(row):
    return " ".join([FIRST_WORD] + [_word_of(step) for step in row])


def _word_of(step):
    return f"{step[0]}:{step[1]}"


def read(text):
    """Return the writer of a text."""
    lines = [_words_of(line) for line in text.split("\n")]
    steps = _steps_by_word(min(len(lines), MOST_STANDS))
    _check_lines(lines, steps)
    return Writer(tuple([_row_of(words, steps) for words in lines]))


def _check_lines(lines, steps):
    least, most = LEAST_LETTERS, MOST_LETTERS
    for number, words in enumerate(lines[:MOST_STANDS], start=1):
        wrong = _wrong_word(words, steps, least, most)
        if wrong is not None:
            raise InvalidText(number, wrong)
        # All lines have as many steps as the first one.
        least = most = len(words) - 1
    if len(lines) > MOST_STANDS:
        raise InvalidText(MOST_STANDS + 1, 1)


def _row_of(words, steps):
    return tuple([steps[word] for word in words[1:]])


def _words_of(line):
    # Only spaces part words: a tab, say, is a part of one.
    return [word for word in line.split(" ") if word]


def _steps_by_word(stands):
    # Numbers are right only as str writes them, so that words are compared, not numbers.
    steps = [(behind, wrote) for behind in range(stands) for wrote in range(GREATEST_WRITTEN + 1)]
    return {_word_of(step): step for step in steps}


def _wrong_word(words, steps, least, most):
    # The number of the first word that cannot stand there, None if there is none.
    if words[:1] != [FIRST_WORD]:
        return 1
    for number, word in enumerate(words[1:], start=2):
        if word not in steps or number > most + 1:
            return number
    if len(words) < least + 1:
        return len(words) + 1
    return None
