"""Which rows of integers are sums of multiples of other rows, and by which multiples."""

from math import gcd

from cubesums.vectors import fraction


def lowest(row):
    """Return a row divided by the greatest common divisor of its integers."""
    common = 0
    for integer in row:
        common = gcd(common, integer)
        if common == 1:
            return row
    return [one // common for one in row]


def dot(one, two):
    """Return the sum of the products of the integers of two rows."""
    return sum([first * second for first, second in zip(one, two)])


class Span:
    """The rows of some length that are sums of multiples of the rows that were included."""

    def __init__(self, length):
        self._length = length
        self._many = 0
        # Orthogonal rows. Behind the integers of each one stand the multiples of the independent
        # rows that add up to it, as many as there were when it was kept.
        self._kept = []
        # The places of the independent rows among all rows that were included.
        self.places = []

    def include(self, row):
        """Include a row, and tell whether the rows ahead do not add up to it."""
        place = self._many
        self._many += 1
        # Once nothing is left over, nothing is left over for any row.
        if len(self._kept) == self._length:
            return False
        reduced = self._reduced(row)
        if not self._is_left(reduced):
            return False
        self._kept.append(reduced)
        self.places.append(place)
        return True

    def rest(self, row):
        """Return what is orthogonal to all included rows in a row: the row less multiples of them."""
        reduced = self._reduced(row)
        return tuple([fraction(integer, reduced[-1]) for integer in reduced[:self._length]])

    def contains(self, row):
        """Tell whether multiples of the included rows add up to a row."""
        return not self._is_left(self._reduced(row))

    def multiples(self, row):
        """Return the multiples that add up to a row, pairs of a place and a fraction, or None."""
        reduced = self._reduced(row)
        if self._is_left(reduced):
            return None
        told = []
        for place, multiple in zip(self.places, reduced[self._length:-1]):
            if multiple != 0:
                told.append((place, fraction(-multiple, reduced[-1])))
        return told

    def _is_left(self, reduced):
        return any([integer != 0 for integer in reduced[:self._length]])

    def _reduced(self, row):
        """Return a multiple of a row, plus multiples of the independent rows, that is orthogonal to all of these.

        Behind its integers stand the multiples of the independent rows, and last that of the row itself.
        """
        reduced = list(row) + [0] * len(self._kept) + [1]
        for kept in self._kept:
            reduced = self._made_orthogonal(reduced, kept)
        return reduced

    def _made_orthogonal(self, reduced, kept):
        entries = kept[:self._length]
        touch = dot(reduced, entries)
        if touch == 0:
            return reduced
        square = dot(entries, entries)
        padded = kept + [0] * (len(reduced) - len(kept))
        return lowest([square * one - touch * two for one, two in zip(reduced, padded)])
