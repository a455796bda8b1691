"""Which groupings and which values have to be stored so that questions are determined."""

from cubesums.determinacy import span_of
from cubesums.errors import TooLarge
from cubesums.groupings import all_groupings, coarser, groups, join, room
from cubesums.vectors import as_fractions, component

MOST_QUESTIONS = 8
MOST_REQUIRED = 6


def family_of(space, groupings):
    """Return the family of all groups of some groupings."""
    return tuple([group for grouping in sorted(set(groupings)) for group in groups(space, grouping)])


def missing(space, groupings, question):
    """Return the coarsest grouping with which the groupings determine a question."""
    found = (0,) * len(space.dimensions)
    for grouping in _present(space, question):
        if not _is_covered(grouping, groupings):
            found = join(found, grouping)
    return found


def _present(space, question):
    """Return the groupings for which a question has a component that is not zero everywhere."""
    vector = as_fractions(question)
    return [grouping for grouping in all_groupings(space) if _is_present(space, grouping, vector)]


def _is_present(space, grouping, vector):
    return any([top != 0 for top, _ in component(space, grouping, vector)])


def _is_covered(grouping, groupings):
    return any([coarser(grouping, other) for other in groupings])


def redundant(space, groupings):
    """Return the groupings that the other ones make superfluous, ascending."""
    different = sorted(set(groupings))
    found = []
    for grouping in different:
        others = [other for other in different if other != grouping]
        if _is_covered(_lowest_levels(space, grouping), others):
            found.append(grouping)
    return tuple(found)


def _lowest_levels(space, grouping):
    """Return the coarsest grouping whose groups have the same cells as those of a grouping."""
    levels = []
    for at, level in enumerate(grouping):
        many = len(space.members(at, level))
        levels.append(min([lower for lower in range(level + 1) if len(space.members(at, lower)) == many]))
    return tuple(levels)


def room_of(space, groupings):
    """Return the number of the groups of all groupings, each as often as it stands there."""
    return sum([room(space, grouping) for grouping in groupings])


def required(space, questions):
    """Return the groupings that stored groupings must have below or beside them, ascending."""
    _check_many(questions)
    present = [grouping for question in questions for grouping in _present(space, question)]
    different = sorted(set(present))
    return tuple([grouping for grouping in different if not _is_below(grouping, different)])


def _check_many(questions):
    if len(questions) > MOST_QUESTIONS:
        raise TooLarge(len(questions))


def _is_below(grouping, groupings):
    """Tell whether a grouping is coarser than one of the groupings, and not equal to it."""
    return _is_covered(grouping, [other for other in groupings if other != grouping])


def cheapest(space, questions):
    """Return the groupings with the least room that determine all of the questions, ascending."""
    wanted = required(space, questions)
    if len(wanted) > MOST_REQUIRED:
        raise TooLarge(len(wanted))
    rows = []
    for some in _joined(wanted):
        rows.append((room_of(space, some), len(some), tuple(sorted(some))))
    return min(rows)[2]


def _joined(wanted):
    """Return for each way to part some groupings the joins of the parts.

    No other choice is cheaper: each of its groupings could be replaced by the join of those that it covers.
    """
    found = [()]
    for grouping in wanted:
        grown = []
        # A copy is walked, because found becomes another name of the list that grows here.
        for some in list(found):
            grown.append((*some, grouping))
            for at, other in enumerate(some):
                grown.append((*some[:at], join(other, grouping), *some[at + 1:]))
        found = grown
    return found


def further(space, family, questions):
    """Return the places of the questions that those ahead, and the sums over a family, do not determine."""
    _check_many(questions)
    span = span_of(space, family)
    places = []
    for place, question in enumerate(questions):
        if span.include(question):
            places.append(place)
    return tuple(places)
