"""Dimensions that several tests use."""

from cubesums.space import Space

TOWN = ("town", ("north/bergen", "north/oslo", "south/rome"))
MONTH = ("month", ("june", "may"))
# Each member of levels 1 and 2 of this dimension has the same leaf below it.
CHAIN = ("chain", ("a/b/c", "d/e/f"))
# The leaves of "ab" stand behind those of "a": a slash is below all letters.
NEAR = ("near", ("a/b/z", "a/bc/a", "ab/a/a", "ab/c/a", "ab/c/b"))

EXAMPLE = (TOWN, MONTH)
SAMPLES = (
    (MONTH,),
    (NEAR,),
    EXAMPLE,
    (MONTH, TOWN),
    (CHAIN, TOWN),
    (NEAR, MONTH, TOWN),
    (CHAIN, MONTH, NEAR),
)


def example():
    """The space of the examples in the document."""
    return Space(EXAMPLE)


def sample_spaces():
    """A space for each of the samples."""
    return [Space(dimensions) for dimensions in SAMPLES]


def belongs(leaf, path):
    """Point 7: tell whether a leaf belongs to the member with a path."""
    return path == "" or leaf == path or leaf.startswith(path + "/")


def level(path):
    """How many words a path has."""
    return path.count("/") + 1 if path else 0


def members_by_hand(leaves, words):
    """Point 7: the members of a level, as the document says them."""
    paths = ["/".join(leaf.split("/")[:words]) for leaf in leaves]
    return tuple(path for at, path in enumerate(paths) if path not in paths[:at])


def depth_of(leaves):
    """How many words the leaves have."""
    return level(leaves[0])
