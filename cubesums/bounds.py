"""What two groupings tell about questions if no amount is negative."""

from cubesums.errors import SumsDiffer
from cubesums.facts import value
from cubesums.groupings import group_numbers, meet
from cubesums.transport import Transport


def consistent(space, first, second, kept):
    """Tell whether amounts that are not negative have the kept sums."""
    if not all([total >= 0 for total in kept[0] + kept[1]]):
        return False
    shared = meet(first, second)
    return _totals(space, first, shared, kept[0]) == _totals(space, second, shared, kept[1])


def _totals(space, grouping, coarse, kept):
    """Return the totals of the sums of a grouping within the groups of a coarser one."""
    above = _numbers_above(space, grouping, coarse)
    found = [0] * (max(above) + 1)
    for number, total in zip(above, kept):
        found[number] += total
    return found


def _numbers_above(space, grouping, coarse):
    """Return for each group of a grouping the number of the group of a coarser one that it is in."""
    found = {}
    for number, above in zip(group_numbers(space, grouping), group_numbers(space, coarse)):
        found[number] = above
    return [found[number] for number in range(len(found))]


def _check_consistent(space, first, second, kept):
    if not consistent(space, first, second, kept):
        raise SumsDiffer()


def least(space, first, second, kept, question):
    """Return the least value of a question, amounts that have it, and prices that show that none have less."""
    amounts, prices = _cheapest(space, first, second, kept, question)
    return (value(question, amounts), amounts, prices)


def greatest(space, first, second, kept, question):
    """Return the greatest value of a question, amounts that have it, and prices that show that none have more."""
    amounts, prices = _cheapest(space, first, second, kept, _opposite(question))
    return (value(question, amounts), amounts, (_opposite(prices[0]), _opposite(prices[1])))


def _opposite(integers):
    return tuple([-integer for integer in integers])


def _cheapest(space, first, second, kept, costs):
    """Return amounts that have the kept sums at the least cost, and their prices; raise SumsDiffer."""
    _check_consistent(space, first, second, kept)
    transport = Transport(group_numbers(space, first), group_numbers(space, second), costs, kept[0], kept[1])
    transport.fill()
    return tuple(transport.amounts), (tuple(transport.row_prices), tuple(transport.column_prices))


def forced(space, first, second, kept):
    """Return the cells whose amount the kept sums force, with it, in order; raise SumsDiffer."""
    _check_consistent(space, first, second, kept)
    pairs = list(zip(group_numbers(space, first), group_numbers(space, second)))
    shared = meet(first, second)
    above = group_numbers(space, shared)
    totals = _totals(space, first, shared, kept[0])
    found = []
    for cell, (one, two) in enumerate(pairs):
        highest = min(kept[0][one], kept[1][two])
        # Whatever the other groups of the shared one cannot take comes to both groups of the cell.
        lowest = max(0, kept[0][one] + kept[1][two] - totals[above[cell]])
        if pairs.count((one, two)) > 1:
            # It may as well come to another cell of both.
            lowest = 0
        if lowest == highest:
            found.append((cell, highest))
    return tuple(found)
