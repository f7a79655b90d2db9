"""Two rows that are read side by side and written alike, and the least ones that lead somewhere.

A state is a tuple of the stand of the first row, the stand of the second one, and how they are to each other.
"""

# The next letter of the first row must be less than that of the second one.
PARTING = 0
# All letters were like so far, and the first unlike one must be less in the first row.
TOGETHER = 1
# The rows are unlike already, and may go on by any letters.
APART = 2


def _may_read(how, one, other):
    if how == APART:
        return True
    return one < other or (how == TOGETHER and one == other)


def _how_behind(how, one, other):
    if how == APART or one != other:
        return APART
    return TOGETHER


def _moves_of(table, state):
    left, right, how = state
    moves = []
    for one, step in enumerate(table[left]):
        for other, twin in enumerate(table[right]):
            if step[1] == twin[1] and _may_read(how, one, other):
                moves.append((one, other, (step[0], twin[0], _how_behind(how, one, other))))
    return moves


def moves_from(table, start):
    """Return a dict of all states that are come to from a start, each with its moves.

    A move is a tuple of the letter of the first row, the letter of the second one, and the next state.
    """
    found = {}
    left = [start]
    while left:
        state = left.pop()
        if state not in found:
            found[state] = _moves_of(table, state)
            left.extend([behind for _, _, behind in found[state]])
    return found


def states_before(moves, states):
    """Return a dict of the states from which one move leads to one of these states."""
    return {state: True for state in moves if any([behind in states for _, _, behind in moves[state]])}


def least_rows(moves, start, levels):
    """Return the least tuple of two rows that lead from the start to a state of levels[0].

    levels[k] is a dict of the states from which k letters lead there; the last one holds the start.
    """
    # The first row decides before the second one, so it is found whole, whatever the second one is.
    first = _least_first(moves, start, levels)
    return (first, _least_second(moves, start, first, levels[0]))


def _least_first(moves, start, levels):
    row = []
    states = [start]
    for level in reversed(levels[:-1]):
        steps = [(one, behind) for state in states for one, _, behind in moves[state] if behind in level]
        least = min([one for one, _ in steps])
        states = sorted({behind for one, behind in steps if one == least})
        row.append(least)
    return tuple(row)


def _least_second(moves, start, first, ends):
    row = []
    state = start
    for letter, level in zip(first, _levels_beside(moves, first, ends)):
        steps = [(other, behind) for one, other, behind in moves[state] if one == letter and behind in level]
        least, state = min(steps)
        row.append(least)
    return tuple(row)


def _levels_beside(moves, first, ends):
    # For each letter of the first row, the states behind it from which the rest of that row leads to the ends.
    levels = [ends]
    for letter in reversed(first[1:]):
        levels.append(_states_before_by(letter, moves, levels[-1]))
    return levels[::-1]


def _states_before_by(letter, moves, states):
    found = {}
    for state in moves:
        if any([one == letter and behind in states for one, _, behind in moves[state]]):
            found[state] = True
    return found
