"""What sums give away, and which of them have to be withheld."""

from cubesums.determinacy import span_of
from cubesums.errors import TooLarge
from cubesums.groupings import groups, indicator

MOST_GROUPS = 8


def opened_cells(space, family):
    """Return the cells whose amounts the sums over a family determine, in order."""
    span = span_of(space, family)
    return tuple([cell for cell in range(space.many) if span.contains(indicator(space, space.coordinates(cell)))])


def opened_groups(space, family, grouping):
    """Return the groups of a grouping whose sums the sums over a family determine, in order."""
    some = groups(space, grouping)
    span = span_of(space, family)
    return tuple([group for group in some if span.contains(indicator(space, group))])


def withhold(space, family, questions):
    """Return as few groups as possible without which no question is determined; None if there are no such groups."""
    if len(family) > MOST_GROUPS:
        raise TooLarge(len(family))
    for size in range(len(family) + 1):
        for places in _choices(len(family), size):
            if _are_open(space, _without(family, places), questions):
                return tuple([family[place] for place in places])
    return None


def _choices(many, size):
    """Return all tuples of so many of the first numbers, each ascending, in order."""
    found = [()]
    for _ in range(size):
        found = [(*some, place) for some in found for place in range(many) if not some or place > some[-1]]
    return found


def _without(family, places):
    return [group for place, group in enumerate(family) if place not in places]


def _are_open(space, family, questions):
    span = span_of(space, family)
    return not any([span.contains(question) for question in questions])
