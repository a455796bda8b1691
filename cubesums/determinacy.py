"""What the sums over a family determine."""

from cubesums.errors import NotDetermined
from cubesums.facts import value
from cubesums.groupings import indicator
from cubesums.spans import Span
from cubesums.vectors import ZERO, plus, primitive, times


def span_of(space, family):
    """Return the span of the indicators of the groups of a family."""
    span = Span(space.many)
    for group in family:
        span.include(indicator(space, group))
    return span


def residual(space, family, question):
    """Return the residual of a question, a vector."""
    return span_of(space, family).rest(question)


def is_determined(space, family, question):
    """Tell whether the sums over a family determine a question."""
    return span_of(space, family).contains(question)


def answer(space, family, question):
    """Return a derivation of a question, or its witness and difference."""
    return answer_in(span_of(space, family), family, question)


def answer_in(span, family, question):
    """Return the answer to a question, where the span of the family is known."""
    multiples = span.multiples(question)
    if multiples is not None:
        return ("determined", tuple([(family[place], multiple) for place, multiple in multiples]))
    witness = primitive(span.rest(question))
    return ("open", witness, value(question, witness))


def value_of(space, family, sums, question):
    """Return the value of a question by the sums over a family; raise NotDetermined if they do not determine it."""
    return value_in(span_of(space, family), sums, question)


def value_in(span, sums, question):
    """Return the value of a question by sums, where the span of the family is known."""
    multiples = span.multiples(question)
    if multiples is None:
        raise NotDetermined()
    total = ZERO
    for place, multiple in multiples:
        total = plus(total, times(multiple, (sums[place], 1)))
    # Sums of facts add up to an integer, whatever the fractions are.
    return total[0]


def independent(space, family):
    """Return the places of the groups whose indicators the groups ahead of them do not determine."""
    return tuple(span_of(space, family).places)


def rank(space, family):
    """Return the number of the independent places of a family."""
    return len(independent(space, family))
