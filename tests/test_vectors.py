"""Fractions, vectors, inner products, projections, components and primitive forms: points 26 to 30."""

import itertools
import unittest
from fractions import Fraction
from math import gcd

from cubesums import vectors
from cubesums.errors import BadGrouping
from cubesums.groupings import all_groupings, group_of
from samples import example, integers, is_inside, sample_spaces

NUMBERS = (-12, -7, -6, -4, -3, -2, -1, 0, 1, 2, 3, 4, 5, 6, 9, 12, 10 ** 30, -10 ** 30 - 1)


def exact(one):
    """A fraction of the program as one of Python."""
    return Fraction(*one)


def pair(one):
    """A fraction of Python as one of the program."""
    return (one.numerator, one.denominator)


def some_fractions():
    """Fractions of both signs, and zero."""
    different = {Fraction(top, bottom) for top in range(-4, 5) for bottom in (1, 2, 3, 6)}
    return [pair(number) for number in sorted(different)]


def some_vector(space, seed=0):
    """A vector with entries of both signs, noughts and several denominators."""
    return tuple(pair(Fraction(top, 1 + (at + seed) % 4)) for at, top in enumerate(integers(space, seed)))


def projected(space, grouping, entries):
    """Point 28: the mean of the entries in its group for each cell."""
    found = []
    for cell in range(space.many):
        group = group_of(space, grouping, cell)
        inside = [entry for other, entry in enumerate(entries) if is_inside(space, other, group)]
        found.append(sum(inside) / Fraction(len(inside)))
    return found


def component_by_hand(space, grouping, entries):
    """Point 29, multiplied out: projections a level higher in some dimensions, with alternating signs."""
    found = [Fraction(0)] * space.many
    for higher in itertools.product(*[(0, 1) if level else (0,) for level in grouping]):
        part = projected(space, tuple(level - one for level, one in zip(grouping, higher)), entries)
        found = [one + (-1) ** sum(higher) * two for one, two in zip(found, part)]
    return found


class FractionTest(unittest.TestCase):
    def lowest(self, one):
        self.assertIs(type(one), tuple)
        self.assertEqual([type(part) for part in one], [int, int])
        self.assertGreaterEqual(one[1], 1)
        self.assertEqual(gcd(*one), 1)

    def test_lowest_terms(self):
        for top, bottom, told in ((1, 2, (1, 2)), (2, 4, (1, 2)), (6, 3, (2, 1)), (-2, 4, (-1, 2)), (2, -4, (-1, 2)),
                                  (-2, -4, (1, 2)), (3, -1, (-3, 1)), (-3, -1, (3, 1)), (7, 7, (1, 1)),
                                  (10, 4, (5, 2)), (-9, 6, (-3, 2)), (9, -6, (-3, 2)), (5, 1, (5, 1))):
            self.assertEqual(vectors.fraction(top, bottom), told)
        for top in NUMBERS:
            for bottom in NUMBERS:
                if bottom:
                    found = vectors.fraction(top, bottom)
                    self.lowest(found)
                    self.assertEqual(found, pair(Fraction(top, bottom)))

    def test_zero(self):
        for bottom in (1, -1, 2, -7, 10 ** 20):
            self.assertEqual(vectors.fraction(0, bottom), (0, 1))
        self.assertEqual(vectors.plus((1, 2), (-1, 2)), (0, 1))
        self.assertEqual(vectors.minus((1, 2), (1, 2)), (0, 1))
        self.assertEqual(vectors.times((0, 1), (-5, 3)), (0, 1))
        self.assertEqual(vectors.over((0, 1), (-5, 3)), (0, 1))

    def test_the_four_operations(self):
        self.assertEqual(vectors.plus((1, 2), (1, 3)), (5, 6))
        self.assertEqual(vectors.minus((1, 2), (1, 3)), (1, 6))
        self.assertEqual(vectors.times((2, 3), (3, 4)), (1, 2))
        self.assertEqual(vectors.over((2, 3), (-4, 3)), (-1, 2))
        for one in some_fractions():
            for two in some_fractions():
                first, second = exact(one), exact(two)
                told = [(vectors.plus(one, two), first + second), (vectors.minus(one, two), first - second),
                        (vectors.times(one, two), first * second)]
                if second:
                    told.append((vectors.over(one, two), first / second))
                for found, right in told:
                    self.lowest(found)
                    self.assertEqual(found, pair(right))

    def test_below(self):
        self.assertIs(vectors.below((1, 3), (1, 2)), True)
        self.assertIs(vectors.below((1, 2), (1, 3)), False)
        self.assertIs(vectors.below((1, 2), (1, 2)), False)
        self.assertIs(vectors.below((-1, 2), (-1, 3)), True)
        self.assertIs(vectors.below((-1, 2), (0, 1)), True)
        for one in some_fractions():
            for two in some_fractions():
                self.assertIs(vectors.below(one, two), exact(one) < exact(two))

    def test_text(self):
        for one, text in (((0, 1), "0"), ((5, 1), "5"), ((-5, 1), "-5"), ((1, 2), "1/2"), ((-7, 3), "-7/3"),
                          ((10, 7), "10/7"), ((1, 10), "1/10")):
            self.assertEqual(vectors.fraction_text(one), text)
        for one in some_fractions():
            self.assertEqual(vectors.fraction_text(one), str(exact(one)))


class InnerTest(unittest.TestCase):
    def test_as_fractions(self):
        self.assertEqual(vectors.as_fractions((1, 0, -3)), ((1, 1), (0, 1), (-3, 1)))
        self.assertEqual(vectors.as_fractions(()), ())

    def test_inner(self):
        one = ((1, 2), (0, 1), (-2, 3))
        self.assertEqual(vectors.inner(one, ((2, 1), (5, 7), (3, 4))), (1, 2))
        self.assertEqual(vectors.inner(one, ((4, 1), (1, 1), (3, 1))), (0, 1))
        self.assertEqual(vectors.inner(one, ((0, 1), (1, 1), (0, 1))), (0, 1))
        self.assertEqual(vectors.inner(one, one), (25, 36))
        for space in sample_spaces():
            first, second = some_vector(space), some_vector(space, 3)
            right = sum(exact(one) * exact(two) for one, two in zip(first, second))
            self.assertEqual(vectors.inner(first, second), pair(right))


class ProjectionTest(unittest.TestCase):
    def test_by_hand(self):
        space = example()
        vector = vectors.as_fractions((3, 1, 4, 1, 5, 9))
        self.assertEqual(vectors.projection(space, (1, 0), vector), ((9, 4),) * 4 + ((7, 1),) * 2)
        self.assertEqual(vectors.projection(space, (0, 0), vector), ((23, 6),) * 6)
        self.assertEqual(vectors.projection(space, (0, 1), vector), ((4, 1), (11, 3)) * 3)
        self.assertEqual(vectors.projection(space, (2, 0), vector), ((2, 1),) * 2 + ((5, 2),) * 2 + ((7, 1),) * 2)

    def test_last_levels_and_level_0(self):
        for space in sample_spaces():
            vector = some_vector(space)
            every = all_groupings(space)
            self.assertEqual(vectors.projection(space, every[-1], vector), vector)
            mean = sum(map(exact, vector)) / Fraction(space.many)
            self.assertEqual(vectors.projection(space, every[0], vector), (pair(mean),) * space.many)

    def test_all_groupings(self):
        for space in sample_spaces():
            vector = some_vector(space)
            entries = [exact(one) for one in vector]
            for grouping in all_groupings(space):
                found = vectors.projection(space, grouping, vector)
                with self.subTest(grouping):
                    self.assertIs(type(found), tuple)
                    self.assertEqual(found, tuple(map(pair, projected(space, grouping, entries))))
                    self.assertEqual(vectors.projection(space, grouping, found), found)

    def test_what_is_left_has_no_sums(self):
        space = example()
        vector = some_vector(space, 2)
        for grouping in all_groupings(space):
            found = vectors.projection(space, grouping, vector)
            rest = tuple(vectors.minus(one, two) for one, two in zip(vector, found))
            self.assertEqual(vectors.projection(space, grouping, rest), ((0, 1),) * 6)

    def test_no_grouping(self):
        vector = some_vector(example())
        for grouping in ((), (1,), (3, 0), (0, -1), (0, 2), (1, 0, 0), (-1, 0)):
            for call in (vectors.projection, vectors.component):
                with self.subTest(grouping), self.assertRaises(BadGrouping):
                    call(example(), grouping, vector)


class ComponentTest(unittest.TestCase):
    def test_by_hand(self):
        space = example()
        vector = vectors.as_fractions((3, 1, 4, 1, 5, 9))
        self.assertEqual(vectors.component(space, (0, 0), vector), ((23, 6),) * 6)
        self.assertEqual(vectors.component(space, (0, 1), vector), ((1, 6), (-1, 6)) * 3)
        self.assertEqual(vectors.component(space, (1, 0), vector), ((-19, 12),) * 4 + ((19, 6),) * 2)
        self.assertEqual(vectors.component(space, (2, 0), vector), ((-1, 4),) * 2 + ((1, 4),) * 2 + ((0, 1),) * 2)
        self.assertEqual(vectors.component(space, (1, 1), vector), ((13, 12), (-13, 12)) * 2 + ((-13, 6), (13, 6)))

    def test_all_groupings(self):
        for space in sample_spaces():
            vector = some_vector(space)
            entries = [exact(one) for one in vector]
            for grouping in all_groupings(space):
                found = vectors.component(space, grouping, vector)
                with self.subTest(grouping):
                    self.assertIs(type(found), tuple)
                    self.assertEqual(found, tuple(map(pair, component_by_hand(space, grouping, entries))))

    def test_components_add_up_to_the_vector(self):
        for space in sample_spaces():
            vector = some_vector(space, 4)
            total = vectors.as_fractions((0,) * space.many)
            for grouping in all_groupings(space):
                part = vectors.component(space, grouping, vector)
                total = tuple(vectors.plus(one, two) for one, two in zip(total, part))
            self.assertEqual(total, vector)

    def test_components_of_components(self):
        space = example()
        vector = some_vector(space, 1)
        nought = vectors.as_fractions((0,) * space.many)
        for one in all_groupings(space):
            part = vectors.component(space, one, vector)
            for two in all_groupings(space):
                self.assertEqual(vectors.component(space, two, part), part if one == two else nought)
                if one != two:
                    self.assertEqual(vectors.inner(part, vectors.component(space, two, vector)), (0, 1))


class PrimitiveTest(unittest.TestCase):
    def test_by_hand(self):
        for vector, told in ((((1, 2), (1, 3)), (3, 2)), (((-1, 2), (1, 3)), (-3, 2)), (((1, 2), (0, 1)), (1, 0)),
                             (((4, 1), (6, 1)), (2, 3)), (((-4, 1), (-6, 1)), (-2, -3)), (((0, 1), (-7, 3)), (0, -1)),
                             (((5, 1), (10, 1), (15, 2)), (2, 4, 3)), (((1, 1), (1, 1)), (1, 1)),
                             (((4, 3), (-8, 9), (0, 1)), (3, -2, 0))):
            self.assertEqual(vectors.primitive(vector), told)

    def test_vector_of_noughts(self):
        self.assertEqual(vectors.primitive(((0, 1), (0, 1), (0, 1))), (0, 0, 0))

    def test_multiple_without_common_divisor(self):
        for space in sample_spaces():
            for seed in range(5):
                vector = some_vector(space, seed)
                found = vectors.primitive(vector)
                self.assertEqual({type(worth) for worth in found}, {int})
                self.assertIs(type(found), tuple)
                self.assertEqual(gcd(*found), 1)
                ratios = {Fraction(whole) / exact(one) for whole, one in zip(found, vector) if one != (0, 1)}
                self.assertEqual(len(ratios), 1)
                self.assertGreater(min(ratios), 0)
                self.assertEqual([whole == 0 for whole in found], [one == (0, 1) for one in vector])
                self.assertEqual(vectors.primitive(vectors.as_fractions(found)), found)


if __name__ == "__main__":
    unittest.main()
