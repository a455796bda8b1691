"""Fractions, and vectors of fractions with one entry for each cell."""

from math import gcd, lcm

from cubesums.groupings import check_grouping, group_numbers, room

ZERO = (0, 1)


def fraction(top, bottom):
    """Return the quotient of two integers as a fraction."""
    common = gcd(top, bottom)
    if bottom < 0:
        common = -common
    return (top // common, bottom // common)


def plus(one, two):
    """Return the sum of two fractions."""
    return fraction(one[0] * two[1] + two[0] * one[1], one[1] * two[1])


def minus(one, two):
    """Return the difference of two fractions."""
    return fraction(one[0] * two[1] - two[0] * one[1], one[1] * two[1])


def times(one, two):
    """Return the product of two fractions."""
    return fraction(one[0] * two[0], one[1] * two[1])


def over(one, two):
    """Return the quotient of two fractions."""
    return fraction(one[0] * two[1], one[1] * two[0])


def below(one, two):
    """Tell whether the first fraction is less than the second."""
    return one[0] * two[1] < two[0] * one[1]


def fraction_text(one):
    """Return the text of a fraction."""
    top, bottom = one
    return str(top) if bottom == 1 else f"{top}/{bottom}"


def as_fractions(integers):
    """Return integers as fractions."""
    return tuple([(integer, 1) for integer in integers])


def inner(first, second):
    """Return the inner product of two vectors."""
    total = ZERO
    for one, two in zip(first, second):
        total = plus(total, times(one, two))
    return total


def projection(space, grouping, vector):
    """Return the vector with the mean of its group at each cell."""
    numbers = group_numbers(space, grouping)
    totals = [ZERO] * room(space, grouping)
    sizes = [0] * len(totals)
    for number, entry in zip(numbers, vector):
        totals[number] = plus(totals[number], entry)
        sizes[number] += 1
    means = [over(total, (size, 1)) for total, size in zip(totals, sizes)]
    return tuple([means[number] for number in numbers])


def component(space, grouping, vector):
    """Return the component of a vector for a grouping."""
    check_grouping(space, grouping)
    found = vector
    for at, level in enumerate(grouping):
        found = _component_in(space, at, level, found)
    return found


def _component_in(space, at, level, vector):
    """Return what the level of one dimension adds to the level above it, in a vector."""
    here = projection(space, _level_alone(space, at, level), vector)
    if level == 0:
        return here
    there = projection(space, _level_alone(space, at, level - 1), vector)
    return tuple([minus(one, two) for one, two in zip(here, there)])


def _level_alone(space, at, level):
    """Return the grouping with a level in one dimension and the last level in all others."""
    every = range(len(space.dimensions))
    return tuple([level if other == at else space.depth(other) for other in every])


def primitive(vector):
    """Return the primitive form of a vector, a tuple of integers."""
    bottom = 1
    for _, part in vector:
        bottom = lcm(bottom, part)
    integers = [top * (bottom // part) for top, part in vector]
    common = 0
    for integer in integers:
        common = gcd(common, integer)
    # All integers are 0 if their greatest common divisor is.
    return tuple([integer // max(common, 1) for integer in integers])
