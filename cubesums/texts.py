"""The texts of cubes, and how to drill down into cubes."""

from cubesums.cube import Cube
from cubesums.errors import BadDimensions, BadGrouping, FaultyText, NoSuchGroup, NotDetermined, SumsDiffer
from cubesums.facts import as_facts
from cubesums.groupings import check_group, in_order
from cubesums.lines import lines_of
from cubesums.numerals import is_signed_numeral
from cubesums.questions import group_expression
from cubesums.realize import realize
from cubesums.space import Space, check_dimensions, start_of, words_of
from cubesums.stored import GREATEST_SUM, MOST_GROUPS

# As many characters as the sum that is farthest below 0 has.
LONGEST_SUM = 20


def cube_text(cube):
    """Return the text of a cube."""
    lines = ["cube"]
    for name, leaves in cube.dimensions():
        lines.append(" ".join(["dimension", name, *leaves]))
    for group, total in cube.stored():
        lines.append(" ".join(["sum", *[path if path else "*" for path in group], str(total)]))
    return "".join([line + "\n" for line in lines])


def cube_of(text):
    """Return the cube that a text tells; raise FaultyText or SumsDiffer if it tells none."""
    lines = lines_of(text)
    if lines[:1] != ["cube"]:
        raise FaultyText(1)
    dimensions = _dimensions_of(lines)
    space = Space(dimensions)
    pairs = _pairs_of(space, lines, len(dimensions) + 1)
    family = tuple([group for group, _ in pairs])
    kind, amounts = realize(space, family, tuple([total for _, total in pairs]))
    if kind == "none":
        raise SumsDiffer()
    cube = Cube(dimensions, family)
    cube.insert(as_facts(amounts))
    return cube


def _dimensions_of(lines):
    """Return the dimensions of which the lines behind the first one tell."""
    dimensions = ()
    for number, line in enumerate(lines[1:], start=2):
        word, _, rest = line.partition(" ")
        if word != "dimension":
            break
        name, *leaves = rest.split(" ")
        dimensions = (*dimensions, (name, tuple(leaves)))
        try:
            check_dimensions(dimensions)
        except BadDimensions:
            raise FaultyText(number) from None
    if dimensions == ():
        raise FaultyText(2)
    return dimensions


def _pairs_of(space, lines, start):
    """Return the groups and sums of which the lines from a place on tell."""
    pairs = []
    for place in range(start, len(lines)):
        found = _pair_of(space, lines[place])
        if found is None or len(pairs) == MOST_GROUPS:
            raise FaultyText(place + 1)
        if pairs and not _is_behind(space, found[0], pairs[-1][0]):
            raise FaultyText(place + 1)
        pairs.append(found)
    return pairs


def _pair_of(space, line):
    """Return the group and the sum that a line tells, or None."""
    words = line.split(" ")
    # The empty path is written as a star alone.
    if words[0] != "sum" or "" in words or not _is_sum(words[-1]):
        return None
    group = tuple(["" if word == "*" else word for word in words[1:-1]])
    try:
        check_group(space, group)
    except NoSuchGroup:
        return None
    return (group, int(words[-1]))


def _is_sum(text):
    # Only a number that is not too long is taken for an integer.
    if not is_signed_numeral(text) or len(text) > LONGEST_SUM:
        return False
    return abs(int(text)) <= GREATEST_SUM


def _is_behind(space, group, before):
    return in_order(space, (group, before)) == (before, group)


def drill(cube, names, *, open_too=True):
    """Return the groups that are visited, one level deeper with each name, with their states."""
    space = Space(cube.dimensions())
    ats = [space.dimension_at(name) for name in names]
    for at in ats:
        if ats.count(at) > space.depth(at):
            raise BadGrouping()
    found = []
    for group in _visited(space, ("",) * len(space.dimensions), ats):
        state = _state(cube, space, group)
        if open_too or state is not None:
            found.append((group, state))
    return tuple(found)


def _visited(space, group, ats):
    """Return a group and all groups below it, each directly behind the one above it."""
    found = [group]
    if ats:
        at = ats[0]
        for path in _members_below(space, at, group[at]):
            found.extend(_visited(space, (*group[:at], path, *group[at + 1:]), ats[1:]))
    return found


def _members_below(space, at, path):
    """Return the members one level deeper within a member."""
    level = len(words_of(path))
    return [member for member in space.members(at, level + 1) if start_of(member, level) == path]


def _state(cube, space, group):
    """Return the sum over a group, or None if it is not determined."""
    try:
        return cube.value(group_expression(space, group))
    except NotDetermined:
        return None
