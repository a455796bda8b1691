"""Linear algebra with Python's own fractions, and families and questions that several tests draw."""

import random
from fractions import Fraction
from math import gcd, lcm

from cubesums.groupings import all_groupings, groups, indicator
from cubesums.space import Space
from samples import all_groups, integers


def pair(one):
    """A fraction of Python as one of the program."""
    return (one.numerator, one.denominator)


def dot(one, two):
    """The sum of the products of the entries."""
    return sum(first * second for first, second in zip(one, two))


def whole(row):
    """The smallest row of integers that is a positive multiple of a row."""
    bottom = lcm(*[Fraction(entry).denominator for entry in row])
    integers_of_it = [int(entry * bottom) for entry in row]
    common = gcd(*integers_of_it)
    return [entry // common for entry in integers_of_it] if common else integers_of_it


def rank_of(rows):
    """The rank of some rows, by elimination."""
    left = [whole(row) for row in rows]
    rank = 0
    for column in range(len(left[0]) if left else 0):
        at = next((at for at in range(rank, len(left)) if left[at][column]), None)
        if at is None:
            continue
        left[rank], left[at] = left[at], left[rank]
        head = left[rank]
        for other in range(rank + 1, len(left)):
            if left[other][column]:
                times = left[other][column]
                left[other] = whole([head[column] * one - times * two for one, two in zip(left[other], head)])
        rank += 1
    return rank


def adds_up(rows, row):
    """Tell whether a row is a sum of multiples of rows."""
    return rank_of([*rows, row]) == rank_of(rows)


def indicators(space, family):
    """The indicators of the groups of a family."""
    return [indicator(space, group) for group in family]


def drawn_families(space, many=4, most=14, seed=0):
    """Families of drawn groups, in order, of several sizes."""
    draw = random.Random(seed)
    every = all_groups(space)
    return [tuple(sorted(draw.sample(every, draw.randint(1, min(most, len(every)))), key=every.index))
            for _ in range(many)]


def families(space):
    """No group, the group of all cells, whole groupings, two of them, and drawn families."""
    every = all_groupings(space)
    middle, last = every[len(every) // 2], every[-1]
    return [(), groups(space, every[0]), groups(space, every[1]), groups(space, middle),
            groups(space, every[1]) + groups(space, middle) if middle != every[1] else (),
            groups(space, every[0]) + groups(space, last), *drawn_families(space)]


def drawn_question(space, seed=0, most=3):
    """A question with coefficients of both signs."""
    draw = random.Random(seed)
    return tuple(draw.randint(-most, most) for _ in range(space.many))


def mixed(space, family, seed=0):
    """A sum of multiples of the indicators of a family."""
    found = [0] * space.many
    for at, row in enumerate(indicators(space, family)):
        times = (5 * at * at + 3 * at + seed) % 9 - 4
        found = [one + times * two for one, two in zip(found, row)]
    return tuple(found)


def questions(space, family):
    """Questions of many kinds, some of which the family determines."""
    zero = (0,) * space.many
    one_cell = (1,) + zero[1:]
    stored = indicators(space, family[:2] + family[-1:])
    found = [zero, one_cell, (1,) * space.many, mixed(space, family), integers(space), drawn_question(space),
             tuple(10 ** 20 * entry + 1 for entry in integers(space, 5)), *stored]
    return found + [tuple(-7 * entry for entry in row) for row in stored[:1]]


def halves():
    """Three of eight cells of which each two have a known sum, so that their amounts take halves of sums.

    The other cells of these sums are known themselves: 0, 3, 5 and 6.
    """
    space = Space((("a", ("x", "y")), ("b", ("x", "y")), ("c", ("x", "y"))))
    known = tuple(space.coordinates(cell) for cell in (0, 3, 5, 6))
    return space, (("", "", "x"), ("", "x", ""), ("x", "", "")) + known


def unit(space, cell):
    """The question for the amount of a cell."""
    return (0,) * cell + (1,) + (0,) * (space.many - cell - 1)


def drawn_amounts(space, seed=0, most=50):
    """Amounts of both signs."""
    draw = random.Random(seed)
    return tuple(draw.randint(-most, most) for _ in range(space.many))
