"""Ways through states: the least one to an end, and all states in the order in which they are come to."""


def least_way(start, leads_from):
    """Return the least of the shortest tuples of letters that lead from a start to an end, None if there is none.

    leads_from(state) is the list of what the letters lead to: a state, or None where the end is.
    """
    seen = {start: True}
    ways = [(start, ())]
    # The ways stand here by length, and those of one length in ascending order.
    at = 0
    while at < len(ways):
        state, way = ways[at]
        for letter, behind in enumerate(leads_from(state)):
            if behind is None:
                return (*way, letter)
            if behind not in seen:
                seen[behind] = True
                ways.append((behind, (*way, letter)))
        at += 1
    return None


def rows_in_order(start, row_from):
    """Return a dict of all states that are come to from a start, in the order in which they are, each with its row.

    row_from(state) is the row of a state: a list of steps, each a tuple that begins with the next state, or None.
    """
    states = [start]
    rows = {}
    while len(rows) < len(states):
        state = states[len(rows)]
        rows[state] = row_from(state)
        for step in rows[state]:
            if step is not None and step[0] not in states:
                states.append(step[0])
    return rows
