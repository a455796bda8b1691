"""The sums that a cube stores, at one time."""

from cubesums.determinacy import answer_in, span_of, value_in
from cubesums.errors import AlreadyStored, NotDetermined, NotStored, TooLarge
from cubesums.facts import as_facts
from cubesums.groupings import check_group, in_order, indicator

MOST_GROUPS = 40
GREATEST_SUM = 10 ** 18


def check_new(space, family, chosen):
    """Raise the first error for which groups cannot be stored beside a family."""
    for group in chosen:
        check_group(space, group)
    many = len(family) + len(chosen)
    if len(set(family + chosen)) < many:
        raise AlreadyStored()
    if many > MOST_GROUPS:
        raise TooLarge(many)


def check_old(space, family, chosen):
    """Raise the first error for which groups cannot be dropped from a family."""
    for group in chosen:
        check_group(space, group)
    for group in chosen:
        if group not in family:
            raise NotStored()


def _check_sums(sums):
    for total in sums:
        if abs(total) > GREATEST_SUM:
            raise TooLarge(abs(total))


def stored_in(space, kept):
    """Return the sums of a dict, by their groups, as sums that are stored."""
    family = in_order(space, tuple(kept))
    return Stored(space, family, tuple([kept[group] for group in family]), span_of(space, family))


class Stored:
    """A family of groups with their sums. None of it changes, so that cubes and marks can share it."""

    def __init__(self, space, family, sums, span):
        _check_sums(sums)
        self.family = family
        self.sums = sums
        self._space = space
        self._span = span

    def pairs(self):
        """Return each group with its sum, in order."""
        return tuple(zip(self.family, self.sums))

    def grown(self, growth):
        """Return the same groups with sums that have grown, each by one of the integers."""
        sums = tuple([total + more for total, more in zip(self.sums, growth)])
        return Stored(self._space, self.family, sums, self._span)

    def with_groups(self, chosen):
        """Return the sums together with those of further groups; raise NotDetermined if they do not tell them."""
        kept = {group: total for group, total in self.pairs()}
        for group in chosen:
            kept[group] = self.sum_over(group)
        return stored_in(self._space, kept)

    def without(self, chosen):
        """Return the sums without those of some groups."""
        return stored_in(self._space, {group: total for group, total in self.pairs() if group not in chosen})

    def value_of(self, question):
        """Return the value of a question; raise NotDetermined."""
        return value_in(self._span, self.sums, question)

    def sum_over(self, group):
        """Return the sum over a group; raise NotDetermined."""
        return self.value_of(indicator(self._space, group))

    def state_of(self, question):
        """Return the value of a question, or None if it is not determined."""
        try:
            return self.value_of(question)
        except NotDetermined:
            return None

    def answer_to(self, question):
        """Return the value of a question and its derivation, or facts that change no sum and the difference."""
        told = answer_in(self._span, self.family, question)
        if told[0] == "determined":
            return ("determined", self.value_of(question), told[1])
        return ("open", as_facts(told[1]), told[2])


def comparison(then, now):
    """Return the groups that are gone, those that are new, and those whose sum is another one, with both sums."""
    gone = tuple([group for group in then.family if group not in now.family])
    new = tuple([group for group in now.family if group not in then.family])
    kept = {group: total for group, total in then.pairs()}
    changed = []
    for group, total in now.pairs():
        if group in kept and kept[group] != total:
            changed.append((group, kept[group], total))
    return (gone, new, tuple(changed))
