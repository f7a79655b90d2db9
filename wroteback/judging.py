"""Whether what was read can be told from what was written."""

from wroteback.checks import LONGEST, check_size, check_stand, is_between, is_tuple_of
from wroteback.pairs import first_pairs, pair_leads, pairs_behind, rank_pairs
from wroteback.two_rows import APART, PARTING, TOGETHER, least_rows, moves_from, states_before


def delay(writer):
    """Return the least number of further letters after which each letter is told, None if there is none."""
    found = rank_pairs(pair_leads(writer.table))
    if found is None:
        return None
    return max(found.values(), default=-1) + 1


def word(writer):
    """Return "soon", "last" or "lost": when what was read is told."""
    leads = pair_leads(writer.table)
    if rank_pairs(leads) is not None:
        return "soon"
    if any([one == other for one, other in leads]):
        return "lost"
    return "last"


def ranks(writer):
    """Return the ascending list of all pairs, each with its rank, None if there is no delay."""
    found = rank_pairs(pair_leads(writer.table))
    if found is None:
        return None
    return [(pair, found[pair]) for pair in sorted(found)]


def shows(writer, bound, value):
    """Tell whether any value shows that the delay is at most bound."""
    check_size(bound, 0, LONGEST)
    told = _told_ranks(value, len(writer), bound)
    if told is None:
        return False
    if not all([pair in told for pair in first_pairs(writer.table)]):
        return False
    return all([_leads_down(writer.table, pair, told) for pair in told])


def _told_ranks(value, stands, bound):
    # The pairs that a value lists, each with its rank, None if it is no such list.
    if not isinstance(value, (list, tuple)):
        return None
    told = {}
    for thing in value:
        if not _is_ranked_pair(thing, stands, bound) or thing[0] in told:
            return None
        told[thing[0]] = thing[1]
    return told


def _is_ranked_pair(value, stands, bound):
    if not is_tuple_of(value, 2, 2) or not is_tuple_of(value[0], 2, 2):
        return False
    one, other = value[0]
    if not is_between(other, 0, stands - 1) or not is_between(one, 0, other):
        return False
    return is_between(value[1], 0, bound - 1)


def _leads_down(table, pair, told):
    return all([behind in told and told[behind] < told[pair] for behind in pairs_behind(table, pair)])


def alike(writer, stand, many):
    """Return the least two rows of so many letters, unlike in the first one, that are written alike."""
    check_stand(writer, stand)
    check_size(many, 1, LONGEST)
    start = (stand, stand, PARTING)
    moves = moves_from(writer.table, start)
    levels = [{state: True for state in moves}]
    for _ in range(many):
        levels.append(states_before(moves, levels[-1]))
    if start not in levels[-1]:
        return None
    return least_rows(moves, start, levels)


def lost_rows(writer):
    """Return the least two of the shortest unlike rows that are written and end alike, None if not lost."""
    if word(writer) != "lost":
        return None
    start = (0, 0, TOGETHER)
    moves = moves_from(writer.table, start)
    levels = [{state: True for state in moves if state[0] == state[1] and state[2] == APART}]
    # A lost writer has such rows, so that the start is found.
    while start not in levels[-1]:
        levels.append(states_before(moves, levels[-1]))
    return least_rows(moves, start, levels)
