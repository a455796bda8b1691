"""Which sums integer amounts have."""

from cubesums.groupings import indicator
from cubesums.vectors import ZERO, fraction, minus, over, times


def _lessened(column, other, place):
    """Return a column less a multiple of another one, nearer to 0 at a place than the other one."""
    quotient = column[place] // other[place]
    return [one - quotient * two for one, two in zip(column, other)]


class Ladder:
    """Columns of integers, added up so that they have the wanted sums in one row after the other.

    There is a column for each cell. Its rows are the groups, then the cells: above, the sums that a set
    of amounts has, below, these amounts, at first 1 at the cell alone. A column is only ever changed by
    a multiple of another one, so that all integer amounts stay sums of multiples of the columns.
    """

    def __init__(self, indicators, many):
        self._columns = []
        for cell in range(many):
            amounts = [0] * many
            amounts[cell] = 1
            self._columns.append([row[cell] for row in indicators] + amounts)
        # The heads are the rows that the rows ahead do not settle. The column with the number of a
        # head is 0 in the heads ahead, and the columns behind it are 0 in this one, too.
        self._heads = []
        # How often the column of each head is taken.
        self._factors = []

    def sum_at(self, row):
        """Return what the columns add up to in a row, each taken as often as was found."""
        return sum([factor * column[row] for factor, column in zip(self._factors, self._columns)])

    def climb(self, place, wanted):
        """Find how to have the wanted sum in the next row, too.

        Return None, or pairs of a row and a fraction which show that there is no way.
        """
        left = wanted - self.sum_at(place)
        if not self._gather(place):
            return None if left == 0 else self._shown_by_rows(place, left)
        head = self._columns[len(self._heads)][place]
        self._heads.append(place)
        if left % head != 0:
            # By these fractions the last column adds up to 1 and all others to 0.
            return self._multiples([0] * len(self._factors) + [1])
        self._factors.append(left // head)
        return None

    def _gather(self, place):
        """Make all columns but one that no head has yet 0 in a row; return False if that one is 0, too."""
        start = len(self._heads)
        live = self._live(place)
        while live:
            _, least = min([(abs(self._columns[at][place]), at) for at in live])
            columns = self._columns
            columns[start], columns[least] = columns[least], columns[start]
            if len(live) == 1:
                return True
            for at in self._live(place):
                if at != start:
                    columns[at] = _lessened(columns[at], columns[start], place)
            live = self._live(place)
        return False

    def _live(self, place):
        many = len(self._columns)
        return [at for at in range(len(self._heads), many) if self._columns[at][place] != 0]

    def _shown_by_rows(self, place, left):
        """Return fractions by which all columns add up to 0, but the sums to one half."""
        row = [column[place] for column in self._columns]
        half = fraction(1, 2 * left)
        shown = [(at, times(minus(ZERO, half), multiple)) for at, multiple in self._multiples(row)]
        return [*shown, (place, half)]

    def _multiples(self, target):
        """Return pairs of a head and a fraction, by which the heads' columns add up to the integers of the target."""
        found = []
        for number in range(len(self._heads) - 1, -1, -1):
            column = self._columns[number]
            rest = (target[number], 1)
            for place, multiple in found:
                rest = minus(rest, times(multiple, (column[place], 1)))
            found.append((self._heads[number], over(rest, (column[self._heads[number]], 1))))
        return found


def realize(space, family, sums):
    """Return integer amounts with these sums over a family, or fractions which show that there are none."""
    ladder = Ladder([indicator(space, group) for group in family], space.many)
    for place, wanted in enumerate(sums):
        shown = ladder.climb(place, wanted)
        if shown is not None:
            multiples = [ZERO] * len(family)
            for at, multiple in shown:
                multiples[at] = multiple
            return ("none", tuple(multiples))
    return ("facts", tuple([ladder.sum_at(len(family) + cell) for cell in range(space.many)]))
