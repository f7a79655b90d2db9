"""Wrong letters: how far what was seen is from what can be written, and how far rows keep apart."""

from wroteback.checks import LONGEST, check_size, check_written
from wroteback.pairs import stands_come_to

MOST_WRONG = 10


def fewest_wrong(writer, seen):
    """Return the least number of places at which what was seen differs from what the writer can write."""
    check_written(seen)
    return _fewest_by_place(writer.table, seen)[0][0]


def mended(writer, seen):
    """Return the least row for which what is written differs from what was seen at the fewest places."""
    check_written(seen)
    row = []
    stand = 0
    for letter, fewest in zip(seen, _fewest_by_place(writer.table, seen)[1:]):
        costs = _wrong_by_step(writer.table[stand], letter, fewest)
        row.append(costs.index(min(costs)))
        stand = writer.table[stand][row[-1]][0]
    return tuple(row)


def _fewest_by_place(table, seen):
    # For each place, and one behind the last: for each stand, at how few places what is seen from there on differs.
    levels = [[0] * len(table)]
    for letter in reversed(seen):
        levels.append([min(_wrong_by_step(row, letter, levels[-1])) for row in table])
    return levels[::-1]


def _wrong_by_step(row, letter, fewest):
    return [int(wrote != letter) + fewest[behind] for behind, wrote in row]


def gap(writer, many):
    """Return the least number of places at which two rows of so many letters, unlike in the first one, differ."""
    check_size(many, 1, LONGEST)
    moves = _moves_by_pair(writer.table)
    costs = _no_costs(moves)
    for _ in range(many - 1):
        costs = _costs_before(moves, costs)
    return _least_cost(_first_moves(writer.table), costs)


def whole_gap(writer):
    """Return the greatest number that the gap comes to, however many letters there are."""
    moves = _moves_by_pair(writer.table)
    return _least_cost(_first_moves(writer.table), _whole_costs(moves))


def letters_for(writer, wrong):
    """Return the least number of letters for which the gap is above 2 * wrong, None if there is none."""
    check_size(wrong, 0, MOST_WRONG)
    if whole_gap(writer) <= 2 * wrong:
        return None
    moves = _moves_by_pair(writer.table)
    first_moves = _first_moves(writer.table)
    costs = _no_costs(moves)
    many = 1
    while _least_cost(first_moves, costs) <= 2 * wrong:
        costs = _costs_before(moves, costs)
        many += 1
    return many


def _move(step, twin):
    # A move of two rows: 1 if they write unlike, otherwise 0, and the stands behind it.
    return (int(step[1] != twin[1]), (step[0], twin[0]))


def _moves_by_pair(table):
    found = {}
    for one, row in enumerate(table):
        for other, beside in enumerate(table):
            found[(one, other)] = [_move(step, twin) for step in row for twin in beside]
    return found


def _first_moves(table):
    # Those by two unlike letters from one stand to which the writer can come.
    found = []
    for stand in stands_come_to(table):
        row = table[stand]
        for letter, step in enumerate(row):
            found.extend([_move(step, twin) for twin in row[:letter]])
    return found


def _least_cost(moves, costs):
    return min([differs + costs[behind] for differs, behind in moves])


def _no_costs(moves):
    return {pair: 0 for pair in moves}


def _costs_before(moves, costs):
    # The costs with one letter more.
    return {pair: _least_cost(moves[pair], costs) for pair in moves}


def _whole_costs(moves):
    # A cost that stops growing is that of a way on which no pair comes twice, and behind which nothing costs any
    # more: it is less than there are pairs. Of one that grows without end it is enough that it comes to as many.
    most = len(moves)
    costs = _no_costs(moves)
    while True:
        further = {pair: min(cost, most) for pair, cost in _costs_before(moves, costs).items()}
        if further == costs:
            return costs
        costs = further
