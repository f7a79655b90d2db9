"""What can have been read, where something was written."""

from wroteback.checks import GREATEST_WRITTEN, check_stand, check_written, is_between
from wroteback.errors import Late
from wroteback.judging import delay
from wroteback.rows import choices_along, count_ends, sure_letters
from wroteback.ways import rows_in_order

MOST_AHEAD = 3


def count_rows(writer, written):
    """Return the number of the rows for which this is written."""
    check_written(written)
    return sum(count_ends(writer.table, 0, written).values())


def stands_after(writer, written):
    """Return the ascending list of the stands in which the rows end for which this is written."""
    check_written(written)
    return sorted(count_ends(writer.table, 0, written))


def sure(writer, written):
    """Return the longest beginning of all rows for which this is written, None if there are none."""
    check_written(written)
    return sure_letters(writer.table, written)


def row_to(writer, written, stand):
    """Return the least row for which this is written and that ends in a stand, None if there is none."""
    check_written(written)
    check_stand(writer, stand)
    choices = choices_along(writer.table, 0, written, [stand])
    if choices is None:
        return None
    return tuple([letters[0] for letters in choices])


def back(writer):
    """Return the table that reads back what a writer with a delay from 0 to 3 wrote."""
    ahead = delay(writer)
    if not is_between(ahead, 0, MOST_AHEAD):
        raise Late("no delay from 0 to 3")
    rows = rows_in_order((0, ()), lambda pair: _steps_back(writer.table, ahead, pair))
    numbers = {pair: number for number, pair in enumerate(rows)}
    return tuple([_numbered(steps, numbers) for steps in rows.values()])


def _steps_back(table, ahead, pair):
    return [_step_back(table, ahead, pair, wrote) for wrote in range(GREATEST_WRITTEN + 1)]


def _step_back(table, ahead, pair, wrote):
    stand, untold = pair[0], (*pair[1], wrote)
    choices = choices_along(table, stand, untold, list(range(len(table))))
    if choices is None:
        return None
    if len(untold) <= ahead:
        return ((stand, untold), None)
    # The delay leaves no other letter than the least one.
    letter = choices[0][0]
    return ((table[stand][letter][0], untold[1:]), letter)


def _numbered(steps, numbers):
    return tuple([None if step is None else (numbers[step[0]], step[1]) for step in steps])
