"""Cubes: stored sums, watched questions and marks."""

from cubesums.bounds import forced, greatest, least
from cubesums.errors import AlreadyWatched, NoSuchMark, NotWatched, ShapesDiffer, TooLarge
from cubesums.facts import as_facts, sums, totals
from cubesums.groupings import all_groupings, check_grouping, groups
from cubesums.needs import cheapest, further, missing, required
from cubesums.questions import question_of
from cubesums.realize import realize
from cubesums.secrets import opened_cells, withhold
from cubesums.space import Space
from cubesums.stored import check_new, check_old, comparison, stored_in

MOST_WATCHED = 6
MOST_MARKS = 10


class Cube:
    """A cube that stores sums of facts, not the facts."""

    def __init__(self, dimensions, stored):
        self._space = Space(dimensions)
        check_new(self._space, (), stored)
        self._stored = stored_in(self._space, {group: 0 for group in stored})
        # Pairs of an expression and its question.
        self._watched = ()
        # Pairs of what was stored and what was watched. Nothing in them ever changes.
        self._marks = ()

    def __iter__(self):
        return iter(self._stored.family)

    def __len__(self):
        return len(self._stored.family)

    def __contains__(self, group):
        return group in self._stored.family

    def dimensions(self):
        """Return the dimensions."""
        return self._space.dimensions

    def stored(self):
        """Return the stored groups with their sums, in order."""
        return self._stored.pairs()

    def copy_of(self):
        """Return a copy."""
        copied = Cube(self.dimensions(), ())
        copied._stored = self._stored
        copied._watched = self._watched
        copied._marks = self._marks
        return copied

    def insert(self, facts):
        """Insert facts, and return the news."""
        amounts = totals(self._space, facts)
        return self._become(self._stored.grown(sums(self._space, self._stored.family, amounts)), self._watched)

    def store(self, chosen):
        """Store groups that the stored sums determine, and return the news."""
        check_new(self._space, self._stored.family, chosen)
        return self._become(self._stored.with_groups(chosen), self._watched)

    def drop(self, chosen):
        """Store groups no longer, and return the news."""
        check_old(self._space, self._stored.family, chosen)
        return self._become(self._stored.without(chosen), self._watched)

    def merge(self, other):
        """Add the facts of another cube, and return the news."""
        if other.dimensions() != self.dimensions():
            raise ShapesDiffer()
        growth = [other.sum_over(group) for group in self._stored.family]
        return self._become(self._stored.grown(growth), self._watched)

    def sum_over(self, group):
        """Return the sum over a group; raise NotDetermined."""
        return self._stored.sum_over(group)

    def _become(self, stored, watched):
        """Take over stored sums and watched questions, and return the news."""
        before = self.watched()
        self._stored = stored
        self._watched = watched
        now = {text: state for text, state in self.watched()}
        return tuple([(text, state, now[text]) for text, state in before if text in now and now[text] != state])

    def watch(self, text):
        """Watch a question, and return its state."""
        question = self._question(text)
        if text in [known for known, _ in self._watched]:
            raise AlreadyWatched()
        if len(self._watched) == MOST_WATCHED:
            raise TooLarge(MOST_WATCHED + 1)
        self._watched = (*self._watched, (text, question))
        return self._stored.state_of(question)

    def unwatch(self, text):
        """Watch a question no longer."""
        left = tuple([(known, question) for known, question in self._watched if known != text])
        if len(left) == len(self._watched):
            raise NotWatched()
        self._watched = left

    def watched(self):
        """Return the watched expressions with their states."""
        return tuple([(text, self._stored.state_of(question)) for text, question in self._watched])

    def mark(self):
        """Remember the stored sums and the watched questions, and return the number of the mark."""
        if len(self._marks) == MOST_MARKS:
            raise TooLarge(MOST_MARKS + 1)
        self._marks = (*self._marks, (self._stored, self._watched))
        return len(self._marks) - 1

    def marks(self):
        """Return how many marks there are."""
        return len(self._marks)

    def back(self, number):
        """Return to a mark, drop the later ones, and return the news."""
        stored, watched = self._at_mark(number)
        self._marks = self._marks[:number + 1]
        return self._become(stored, watched)

    def compare(self, number):
        """Return the groups that are gone since a mark, those that are new, and the sums that are others."""
        then, _ = self._at_mark(number)
        return comparison(then, self._stored)

    def since(self, number, text):
        """Return the growth of a question since a mark; raise NotDetermined."""
        question = self._question(text)
        then, _ = self._at_mark(number)
        return self._stored.value_of(question) - then.value_of(question)

    def _at_mark(self, number):
        if not 0 <= number < len(self._marks):
            raise NoSuchMark()
        return self._marks[number]

    def _question(self, text):
        return question_of(self._space, text)

    def _questions(self, texts):
        return tuple([self._question(text) for text in texts])

    def value(self, text):
        """Return the value of a question; raise NotDetermined."""
        return self._stored.value_of(self._question(text))

    def ask(self, text):
        """Return the value of a question and its derivation, or facts that change it alone and the difference."""
        return self._stored.answer_to(self._question(text))

    def example(self):
        """Return facts that have the stored sums."""
        # The sums are sums of facts, so that there always are some.
        _, amounts = realize(self._space, self._stored.family, self._stored.sums)
        return as_facts(amounts)

    def whole(self):
        """Return the groupings all of whose groups are stored, ascending."""
        return tuple([grouping for grouping in all_groupings(self._space) if self._is_whole(grouping)])

    def _is_whole(self, grouping):
        return all([group in self._stored.family for group in groups(self._space, grouping)])

    def missing(self, text):
        """Return the coarsest grouping with which the whole groupings determine a question."""
        question = self._question(text)
        return missing(self._space, self.whole(), question)

    def required(self, texts):
        """Return the required groupings for some questions, ascending."""
        return required(self._space, self._questions(texts))

    def cheapest(self, texts):
        """Return the groupings with the least room that determine some questions, ascending."""
        return cheapest(self._space, self._questions(texts))

    def further(self, texts):
        """Return the questions that the stored sums, and the questions ahead of them, do not determine."""
        places = further(self._space, self._stored.family, self._questions(texts))
        return tuple([texts[place] for place in places])

    def withhold(self, texts):
        """Return as few stored groups as possible without which none of the questions is determined, or None."""
        return withhold(self._space, self._stored.family, self._questions(texts))

    def opened(self):
        """Return the cells whose amounts the stored sums determine, with these amounts, in order."""
        cells = opened_cells(self._space, self._stored.family)
        return tuple([(cell, self.sum_over(self._space.coordinates(cell))) for cell in cells])

    def bounds(self, first, second, text):
        """Return the least and the greatest value of a question by the sums of two groupings."""
        question = self._question(text)
        kept = self._kept_sums(first, second)
        return (least(self._space, first, second, kept, question), greatest(self._space, first, second, kept, question))

    def forced(self, first, second):
        """Return the cells whose amounts the sums of two groupings force, with these amounts, in order."""
        kept = self._kept_sums(first, second)
        return forced(self._space, first, second, kept)

    def _kept_sums(self, first, second):
        """Return the sums of all groups of two groupings; raise BadGrouping or NotDetermined."""
        check_grouping(self._space, first)
        check_grouping(self._space, second)
        return (self._sums_of(first), self._sums_of(second))

    def _sums_of(self, grouping):
        return tuple([self.sum_over(group) for group in groups(self._space, grouping)])
