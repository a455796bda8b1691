"""Cubes, groups and faulty expressions that several tests use."""

from cubesums.cube import Cube
from cubesums.errors import FaultyText, NoSuchName, TooLarge, TwiceAsked
from samples import EXAMPLE

NORTH, SOUTH, JUNE, MAY, ALL = ("north", ""), ("south", ""), ("", "june"), ("", "may"), ("", "")
REGIONS = (NORTH, SOUTH)
LIMIT = 10 ** 18
WIDE = (("a", tuple("bcdefgh")), ("i", tuple("jklmno")))
NO_GROUPS = ((), ("",), ("", "", ""), ("east", ""), ("north", "july"), ("nor", ""), ("north/", ""), ("may", "north"),
             ("oslo", ""), ("north/oslo/x", ""), ("*", ""), ("north", "", "may"))
# What expressions are refused for, with the error and its field.
FAULTS = (("", FaultyText, "at", 1), ("sum sum", FaultyText, "at", 2),
          ("sum where town in east", NoSuchName, "name", "east"),
          ("sum where year in may", NoSuchName, "name", "year"),
          ("sum where town in north and town in south", TwiceAsked, "name", "town"),
          ("2 * (600 * sum)", TooLarge, "count", 1200), (" " * 298 + "sum", TooLarge, "count", 301))


def started(stored=REGIONS):
    """The cube of the document's example, or one with other groups, and its facts."""
    cube = Cube(EXAMPLE, stored)
    cube.insert(((3, 20), (0, 10), (5, 15)))
    return cube


def contents(cube):
    """All that can be seen of a cube."""
    marks = [(cube.compare(number), cube.since(number, "0 * sum")) for number in range(cube.marks())]
    return cube.dimensions(), cube.stored(), cube.watched(), marks, tuple(cube), len(cube)
