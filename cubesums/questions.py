"""The questions that expressions denote, and the expressions of groups."""

from cubesums.errors import TooLarge, TwiceAsked
from cubesums.expressions import read_expression

LONGEST_EXPRESSION = 300
GREATEST_COEFFICIENT = 1000
# How often each part of a tree of this kind counts.
WEIGHTS = {"minus": (-1,), "plus": (1, 1), "less": (1, -1)}


def question_of(space, text):
    """Return the question that an expression denotes."""
    if len(text) > LONGEST_EXPRESSION:
        raise TooLarge(len(text))
    tree = read_expression(text)
    # All names are looked at ahead of all coefficients, wherever they stand.
    _check_names(space, tree)
    return _coefficients(space, tree)


def _parts_of(tree):
    """Return the trees of which a tree is made, from left to right."""
    if tree[0] == "sum":
        return ()
    return tree[2:] if tree[0] == "times" else tree[1:]


def _check_names(space, tree):
    if tree[0] == "sum":
        _check_conditions(space, tree[1])
    for part in _parts_of(tree):
        _check_names(space, part)


def _check_conditions(space, conditions):
    """Raise NoSuchName or TwiceAsked for the first fault in the conditions of a sum."""
    named = []
    for name, paths in conditions:
        at = space.dimension_at(name)
        if name in named:
            raise TwiceAsked(name)
        named.append(name)
        for path in paths:
            space.leaves_of(at, path)


def _coefficients(space, tree):
    """Return the question of a tree; raise TooLarge for the first result that is too large."""
    if tree[0] == "sum":
        return _coefficients_of_sum(space, tree[1])
    parts = []
    for part in _parts_of(tree):
        parts.append(_coefficients(space, part))
    weights = (tree[1],) if tree[0] == "times" else WEIGHTS[tree[0]]
    result = [_weighted(weights, column) for column in zip(*parts)]
    greatest = max([abs(coefficient) for coefficient in result])
    if greatest > GREATEST_COEFFICIENT:
        raise TooLarge(greatest)
    return tuple(result)


def _weighted(weights, column):
    return sum([weight * coefficient for weight, coefficient in zip(weights, column)])


def _coefficients_of_sum(space, conditions):
    rows = []
    for name, paths in conditions:
        at = space.dimension_at(name)
        rows.append((at, [leaf for path in paths for leaf in space.leaves_of(at, path)]))
    return tuple([_meets(space.parts(cell), rows) for cell in range(space.many)])


def _meets(parts, rows):
    """Return 1 if the leaves of a cell are among those that each row allows, otherwise 0."""
    return 1 if all([parts[at] in allowed for at, allowed in rows]) else 0


def group_expression(space, group):
    """Return the expression of a group."""
    conditions = []
    for (name, _), path in zip(space.dimensions, group):
        if path != "":
            conditions.append(f"{name} in {path}")
    return "sum where " + " and ".join(conditions) if conditions else "sum"
