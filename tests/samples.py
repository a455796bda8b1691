"""Dimensions that several tests use, and the points they rest on, worked out by hand."""

import itertools

from cubesums.space import Space

TOWN = ("town", ("north/bergen", "north/oslo", "south/rome"))
MONTH = ("month", ("june", "may"))
# Each member of levels 1 and 2 of this dimension has the same leaf below it.
CHAIN = ("chain", ("a/b/c", "d/e/f"))
# The leaves of "ab" stand behind those of "a": a slash is below all letters.
NEAR = ("near", ("a/b/z", "a/bc/a", "ab/a/a", "ab/c/a", "ab/c/b"))

EXAMPLE = (TOWN, MONTH)
SAMPLES = (
    (MONTH,),
    (NEAR,),
    EXAMPLE,
    (MONTH, TOWN),
    (CHAIN, TOWN),
    (NEAR, MONTH, TOWN),
    (CHAIN, MONTH, NEAR),
)


def example():
    """The space of the examples in the document."""
    return Space(EXAMPLE)


def sample_spaces():
    """A space for each of the samples."""
    return [Space(dimensions) for dimensions in SAMPLES]


def belongs(leaf, path):
    """Point 7: tell whether a leaf belongs to the member with a path."""
    return path == "" or leaf == path or leaf.startswith(path + "/")


def level(path):
    """How many words a path has."""
    return path.count("/") + 1 if path else 0


def members_by_hand(leaves, words):
    """Point 7: the members of a level, as the document says them."""
    paths = ["/".join(leaf.split("/")[:words]) for leaf in leaves]
    return tuple(path for at, path in enumerate(paths) if path not in paths[:at])


def depth_of(leaves):
    """How many words the leaves have."""
    return level(leaves[0])


def is_inside(space, cell, group):
    """Point 10: tell whether a cell is in a group."""
    return all(belongs(leaf, path) for leaf, path in zip(space.coordinates(cell), group))


def all_groups(space):
    """Each space's groups in order, over all groupings."""
    depths = [depth_of(leaves) for _, leaves in space.dimensions]
    found = []
    for grouping in itertools.product(*[range(depth + 1) for depth in depths]):
        rows = [members_by_hand(leaves, words) for (_, leaves), words in zip(space.dimensions, grouping)]
        found.extend(itertools.product(*rows))
    return found


def integers(space, seed=0):
    """Integers of both signs, one for each cell, with noughts where there are many cells."""
    return tuple((7 * cell * cell + 3 * cell + seed) % 23 - 11 for cell in range(space.many))
