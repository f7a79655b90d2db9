"""Pairs of stands that wrote alike: how long two rows that parted can go on unnoticed."""


def as_pair(one, other):
    """Return two stands as a pair, the lesser one first."""
    return (min(one, other), max(one, other))


def come_to(starts, leads):
    """Return the ascending list of all that is come to from the starts, where leads tells one step."""
    found = {}
    left = list(starts)
    while left:
        thing = left.pop()
        if thing not in found:
            found[thing] = True
            left.extend(leads[thing])
    return sorted(found)


def stands_come_to(table):
    """Return the ascending list of the stands to which the writer can come."""
    leads = {stand: [step[0] for step in row] for stand, row in enumerate(table)}
    return come_to([0], leads)


def pairs_behind(table, pair):
    """Return the ascending list of the pairs to which letters that are written alike lead from a pair."""
    ones, others = table[pair[0]], table[pair[1]]
    return sorted({as_pair(one[0], other[0]) for one in ones for other in others if one[1] == other[1]})


def first_pairs(table):
    """Return the pairs to which two unlike letters lead that are written alike from one stand."""
    found = []
    for stand in stands_come_to(table):
        row = table[stand]
        for letter, step in enumerate(row):
            found.extend([as_pair(twin[0], step[0]) for twin in row[:letter] if twin[1] == step[1]])
    return found


def pair_leads(table):
    """Return a dict that gives for each pair that is come to the pairs behind it."""
    stands = len(table)
    pairs = [(one, other) for one in range(stands) for other in range(one, stands)]
    leads = {pair: pairs_behind(table, pair) for pair in pairs}
    return {pair: leads[pair] for pair in come_to(first_pairs(table), leads)}


def rank_pairs(leads):
    """Return a dict of the ranks of pairs, None if some pairs lead on without end."""
    found = {}
    left = leads
    rank = 0
    while left:
        # What is ranked in this round comes to nothing but what was ranked in earlier ones.
        ended = [pair for pair in left if all([behind in found for behind in left[pair]])]
        if not ended:
            return None
        for pair in ended:
            found[pair] = rank
        left = {pair: left[pair] for pair in left if pair not in found}
        rank += 1
    return found
