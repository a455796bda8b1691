"""Groupings, which are tuples of levels, and their groups, which are tuples of members."""

from cubesums.errors import BadGrouping, NoSuchGroup
from cubesums.space import choices, start_of, words_of


def check_grouping(space, grouping):
    """Raise BadGrouping if a tuple of integers is no grouping."""
    if len(grouping) != len(space.dimensions):
        raise BadGrouping()
    for at, level in enumerate(grouping):
        if not 0 <= level <= space.depth(at):
            raise BadGrouping()


def check_group(space, group):
    """Raise NoSuchGroup if a tuple of strings is no group."""
    if len(group) != len(space.dimensions):
        raise NoSuchGroup()
    for at, path in enumerate(group):
        if not space.has_member(at, path):
            raise NoSuchGroup()


def all_groupings(space):
    """Return all groupings, ascending."""
    depths = [space.depth(at) for at in range(len(space.dimensions))]
    return tuple(choices([list(range(depth + 1)) for depth in depths]))


def groups(space, grouping):
    """Return the groups of a grouping, in order."""
    check_grouping(space, grouping)
    return tuple(choices([space.members(at, level) for at, level in enumerate(grouping)]))


def group_numbers(space, grouping):
    """Return the number of its group for each cell."""
    check_grouping(space, grouping)
    numbers = [0]
    for at, level in enumerate(grouping):
        many = len(space.members(at, level))
        row = _member_numbers(space, at, level)
        numbers = [number * many + member for number in numbers for member in row]
    return tuple(numbers)


def _member_numbers(space, at, level):
    """Return the number of its member of a level for each leaf of a dimension."""
    members = space.members(at, level)
    found = {}
    for number, path in enumerate(members):
        for leaf in space.leaves_of(at, path):
            found[leaf] = number
    return [found[leaf] for leaf in range(len(found))]


def room(space, grouping):
    """Return the number of the groups of a grouping."""
    return len(groups(space, grouping))


def coarser(one, two):
    """Tell whether the first grouping is coarser than the second or equal to it."""
    return all([first <= second for first, second in zip(one, two)])


def meet(one, two):
    """Return the grouping with the lesser level of each dimension."""
    return tuple([min(first, second) for first, second in zip(one, two)])


def join(one, two):
    """Return the grouping with the greater level of each dimension."""
    return tuple([max(first, second) for first, second in zip(one, two)])


def grouping_of(group):
    """Return the grouping of a group."""
    return tuple([len(words_of(path)) for path in group])


def group_of(space, grouping, cell):
    """Return the group of a grouping in which a cell is."""
    check_grouping(space, grouping)
    leaves = space.coordinates(cell)
    return tuple([start_of(leaf, level) for leaf, level in zip(leaves, grouping)])


def group_cells(space, group):
    """Return the cells of a group, ascending."""
    check_group(space, group)
    rows = []
    for at, path in enumerate(group):
        _, leaves = space.dimensions[at]
        rows.append([leaves[number] for number in space.leaves_of(at, path)])
    return tuple([space.cell(coordinates) for coordinates in choices(rows)])


def indicator(space, group):
    """Return the question that is 1 at the cells of a group and 0 at all others."""
    coefficients = [0] * space.many
    for cell in group_cells(space, group):
        coefficients[cell] = 1
    return tuple(coefficients)


def in_order(space, some):
    """Return the groups of a tuple in order, each once."""
    for group in some:
        check_group(space, group)
    # The slash is below all letters, so that the paths of the members of a level
    # are ordered as strings exactly as their leaves are.
    placed = sorted({(grouping_of(group), group) for group in some})
    return tuple([group for _, group in placed])
