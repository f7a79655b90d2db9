"""The rows of letters for which something is written, from a stand on."""


def count_ends(table, stand, written):
    """Return a dict of the stands in which these rows end, each with the number of rows that end there."""
    counts = {stand: 1}
    for wrote in written:
        counts = _count_behind(table, counts, wrote)
    return counts


def _count_behind(table, counts, wrote):
    found = {}
    for stand in counts:
        for step in table[stand]:
            if step[1] == wrote:
                found[step[0]] = found.get(step[0], 0) + counts[stand]
    return found


def choices_along(table, stand, written, ends):
    """Return, place by place along the least of these rows to one of the ends, the letters that could be read there.

    Each is an ascending list that begins with the letter of the least row. Return None if there is no such row.
    """
    levels = _levels_to(table, written, ends)
    if stand not in levels[0]:
        return None
    found = []
    at = stand
    for wrote, level in zip(written, levels[1:]):
        found.append(_letters_into(table[at], wrote, level))
        at = table[at][found[-1][0]][0]
    return found


def _levels_to(table, written, ends):
    # For each place, the stands from which what is still to be written there leads to the ends.
    levels = [ends]
    for wrote in reversed(written):
        levels.append([stand for stand, row in enumerate(table) if _letters_into(row, wrote, levels[-1])])
    return levels[::-1]


def _letters_into(row, wrote, ends):
    return [letter for letter, step in enumerate(row) if step[1] == wrote and step[0] in ends]


def sure_letters(table, written):
    """Return the longest beginning of all rows from the stand 0 on, None if there are none."""
    choices = choices_along(table, 0, written, list(range(len(table))))
    if choices is None:
        return None
    row = []
    for letters in choices:
        # Rows that part here have nothing further in common, even if they meet again.
        if len(letters) > 1:
            break
        row.append(letters[0])
    return tuple(row)
