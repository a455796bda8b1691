"""The lines of a text."""

from cubesums.errors import FaultyText


def lines_of(text):
    """Return the lines of a text, without their line feeds; raise FaultyText if the last one has none."""
    # Behind the last line feed, splitting gives one more string, the empty one.
    found = text.split("\n")
    if found[-1] != "":
        raise FaultyText(len(found))
    return found[:-1]
