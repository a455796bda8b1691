"""Facts, their texts, the amounts at the cells, and what questions are worth on them."""

from cubesums.errors import FaultyText, NoSuchCell, TooLarge
from cubesums.groupings import group_cells
from cubesums.lines import lines_of
from cubesums.numerals import is_signed_numeral

MOST_LINES = 60
MOST_DIGITS = 9


def facts_of(space, text):
    """Return the facts that a text tells; raise FaultyText or TooLarge if it tells none."""
    lines = lines_of(text)
    if len(lines) > MOST_LINES:
        raise TooLarge(len(lines))
    return tuple([_fact_of(space, line, number) for number, line in enumerate(lines, start=1)])


def _fact_of(space, line, number):
    """Return the fact that a line tells; raise FaultyText, with the line's number, if it tells none."""
    words = line.split(" ")
    if not _is_amount(words[-1]):
        raise FaultyText(number)
    try:
        cell = space.cell(tuple(words[:-1]))
    except NoSuchCell:
        raise FaultyText(number) from None
    return (cell, int(words[-1]))


def _is_amount(text):
    return is_signed_numeral(text) and len(text.removeprefix("-")) <= MOST_DIGITS


def facts_text(space, facts):
    """Return the text of facts; raise NoSuchCell for a cell that there is not."""
    lines = []
    for cell, amount in facts:
        _check_cell(space, cell)
        lines.append(" ".join(space.coordinates(cell)) + f" {amount}\n")
    return "".join(lines)


def _check_cell(space, cell):
    # Python would count a number below 0 from the end.
    if not 0 <= cell < space.many:
        raise NoSuchCell()


def totals(space, facts):
    """Return the amounts of facts; raise NoSuchCell for a cell that there is not."""
    amounts = [0] * space.many
    for cell, amount in facts:
        _check_cell(space, cell)
        amounts[cell] += amount
    return tuple(amounts)


def as_facts(amounts):
    """Return the facts with these amounts, in the order of the cells, without amounts of 0."""
    return tuple([(cell, amount) for cell, amount in enumerate(amounts) if amount != 0])


def value(question, amounts):
    """Return the value of a question on amounts."""
    return sum([coefficient * amount for coefficient, amount in zip(question, amounts)])


def sums(space, family, amounts):
    """Return the sums of amounts over the groups of a family."""
    return tuple([_sum_over(space, group, amounts) for group in family])


def _sum_over(space, group, amounts):
    return sum([amounts[cell] for cell in group_cells(space, group)])
