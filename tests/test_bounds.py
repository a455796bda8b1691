"""Kept sums, least and greatest values, forced cells: points 48 to 52."""

import itertools
import random
import unittest

from cubesums import bounds
from cubesums.determinacy import is_determined, value_of
from cubesums.errors import SumsDiffer
from cubesums.facts import sums, value
from cubesums.groupings import all_groupings, group_cells, group_numbers, groups, indicator, meet
from cubesums.needs import family_of
from cubesums.space import Space
from exact import drawn_question, unit
from samples import CHAIN, MONTH, TOWN, example, is_inside, sample_spaces

TINY = ((MONTH, ("b", ("x", "y"))), (TOWN,), (("a", ("p/x", "p/y", "q/x")), ("b", ("x", "y"))), (CHAIN, MONTH))


def kept_of(space, first, second, amounts):
    """The sums of amounts over two groupings."""
    return (sums(space, groups(space, first), amounts), sums(space, groups(space, second), amounts))


def drawn(space, seed, most=4):
    """Amounts that are not negative, about half of them 0."""
    draw = random.Random(seed)
    return tuple(max(0, draw.randint(-most, most)) for _ in range(space.many))


def all_amounts(space, first, second, kept):
    """All amounts with the kept sums, by trying each amount at each cell."""
    rows, columns = group_numbers(space, first), group_numbers(space, second)
    found = []

    def grow(amounts, left, wanted):
        cell = len(amounts)
        if cell == space.many:
            if not any(left) and not any(wanted):
                found.append(tuple(amounts))
            return
        row, column = rows[cell], columns[cell]
        for amount in range(min(left[row], wanted[column]) + 1):
            left[row] -= amount
            wanted[column] -= amount
            grow(amounts + [amount], left, wanted)
            left[row] += amount
            wanted[column] += amount

    if min(kept[0] + kept[1]) >= 0:
        grow([], list(kept[0]), list(kept[1]))
    return found


def tables():
    """Small spaces with two groupings and kept sums, and all amounts that have them."""
    for dimensions in TINY:
        space = Space(dimensions)
        every = all_groupings(space)
        for at, (first, second) in enumerate(itertools.product(every, every)):
            kept = kept_of(space, first, second, drawn(space, at, 2))
            if sum(kept[0]) <= 5:
                yield space, first, second, kept, all_amounts(space, first, second, kept)


class ConsistentTest(unittest.TestCase):
    def test_sums_of_facts(self):
        for space in sample_spaces():
            every = all_groupings(space)
            for at, (first, second) in enumerate(itertools.product(every[::2], every[::3])):
                kept = kept_of(space, first, second, drawn(space, at))
                self.assertIs(bounds.consistent(space, first, second, kept), True)

    def test_against_all_amounts(self):
        draw = random.Random(1)
        seen = set()
        for dimensions in TINY:
            space = Space(dimensions)
            every = all_groupings(space)
            for first, second in itertools.product(every, every):
                for _ in range(6):
                    kept = tuple(tuple(draw.choice((-1, 0, 0, 1, 1, 2)) for _ in groups(space, grouping))
                                 for grouping in (first, second))
                    if sum(kept[0]) > 4:
                        continue
                    expected = bool(all_amounts(space, first, second, kept))
                    self.assertIs(bounds.consistent(space, first, second, kept), expected)
                    seen.add(expected)
        self.assertEqual(seen, {True, False})

    def test_by_hand(self):
        space = example()
        for first, second, kept, told in (
                ((1, 0), (0, 1), ((30, 15), (20, 25)), True), ((1, 0), (0, 1), ((30, 15), (20, 24)), False),
                ((1, 0), (0, 1), ((30, -15), (20, -5)), False), ((1, 0), (0, 1), ((-1, 1), (0, 0)), False),
                ((1, 0), (0, 1), ((0, 0), (1, -1)), False), ((1, 0), (0, 1), ((0, 0), (0, 0)), True),
                # Both totals are 10, but that of the north is 6 for one grouping and 7 for the other one.
                ((1, 1), (2, 0), ((4, 2, 1, 3), (3, 4, 3)), False), ((1, 1), (2, 0), ((4, 3, 1, 2), (3, 4, 3)), True),
                ((1, 0), (1, 0), ((3, 4), (3, 4)), True), ((1, 0), (1, 0), ((3, 4), (4, 3)), False),
                ((0, 0), (0, 0), ((5,), (5,)), True), ((0, 0), (0, 0), ((5,), (6,)), False),
                ((0, 0), (0, 0), ((-5,), (-5,)), False), ((0, 0), (1, 0), ((7,), (3, 4)), True),
                ((1, 0), (0, 0), ((3, 4), (8,)), False), ((0, 0), (2, 1), ((6,), (1, 1, 1, 1, 1, 1)), True)):
            self.assertIs(bounds.consistent(space, first, second, kept), told, (first, second, kept))

    def test_each_function_refuses(self):
        space = example()
        for first, second, kept in (((1, 0), (0, 1), ((30, 15), (20, 24))), ((1, 0), (0, 1), ((30, -15), (20, -5))),
                                    ((1, 1), (2, 0), ((4, 2, 1, 3), (3, 4, 3))), ((1, 0), (1, 0), ((3, 4), (4, 3)))):
            for refused in (lambda: bounds.least(space, first, second, kept, (1,) * 6),
                            lambda: bounds.greatest(space, first, second, kept, (1,) * 6),
                            lambda: bounds.forced(space, first, second, kept)):
                with self.assertRaises(SumsDiffer):
                    refused()


class BoundsTest(unittest.TestCase):
    def check(self, space, first, second, kept, question):
        """Check what is told of the least and the greatest value, and return the two values."""
        rows, columns = group_numbers(space, first), group_numbers(space, second)
        told = []
        for sign, found in ((1, bounds.least(space, first, second, kept, question)),
                            (-1, bounds.greatest(space, first, second, kept, question))):
            self.assertEqual((type(found), len(found)), (tuple, 3))
            worth, amounts, prices = found
            self.assertEqual(len(amounts), space.many)
            self.assertEqual((type(amounts), type(prices), len(prices)), (tuple, tuple, 2))
            self.assertEqual([type(row) for row in prices], [tuple, tuple])
            self.assertEqual([len(row) for row in prices], [len(row) for row in kept])
            self.assertEqual({type(one) for one in (worth, *amounts, *prices[0], *prices[1])}, {int})
            self.assertGreaterEqual(min(amounts), 0)
            self.assertEqual(kept_of(space, first, second, amounts), kept)
            self.assertEqual(value(question, amounts), worth)
            for cell in range(space.many):
                both = prices[0][rows[cell]] + prices[1][columns[cell]]
                self.assertLessEqual(sign * both, sign * question[cell])
            self.assertEqual(value(prices[0], kept[0]) + value(prices[1], kept[1]), worth)
            told.append(worth)
        return tuple(told)

    def test_drawn_cases(self):
        draw = random.Random(2)
        for space in sample_spaces():
            every = all_groupings(space)
            for seed in range(60):
                first, second = draw.choice(every), draw.choice(every)
                kept = kept_of(space, first, second, drawn(space, seed, draw.choice((1, 5, 10 ** 18))))
                self.check(space, first, second, kept, drawn_question(space, seed, draw.choice((1, 4, 1000))))

    def test_large_tables(self):
        space = Space((("a", tuple("bcdefgh")), ("i", tuple("jklmno"))))
        flat = Space((("a", ("p/b", "p/c", "p/d", "q/e", "q/f", "q/g")), ("i", ("j/k", "j/l", "m/n", "m/o")),
                      ("r", ("s", "t"))))
        for seed in range(25):
            kept = kept_of(space, (1, 0), (0, 1), drawn(space, seed, 10 ** (seed - seed // 19 * 19)))
            self.check(space, (1, 0), (0, 1), kept, drawn_question(space, seed, 1000))
            for first, second in (((2, 0, 0), (0, 2, 0)), ((2, 1, 0), (1, 2, 1)), ((1, 2, 1), (2, 0, 1))):
                kept = kept_of(flat, first, second, drawn(flat, seed, 10 ** 6))
                self.check(flat, first, second, kept, drawn_question(flat, seed, 1000))

    def test_small_tables_against_all_amounts(self):
        many = 0
        for at, (space, first, second, kept, every) in enumerate(tables()):
            for question in (drawn_question(space, at), unit(space, at - at // space.many * space.many)):
                values = [value(question, amounts) for amounts in every]
                told = self.check(space, first, second, kept, question)
                self.assertEqual(told, (min(values), max(values)))
                many += told[0] < told[1]
        self.assertGreater(many, 50)

    def test_sums_of_joint_groups(self):
        # The sum over the cells of both of two groups is at least a + b - c and 0, at most a and b.
        for space in sample_spaces():
            every = all_groupings(space)
            for at, (first, second) in enumerate(itertools.product(every[1::2], every[1::3])):
                amounts = drawn(space, at, 9)
                kept = kept_of(space, first, second, amounts)
                for one, two in list(itertools.product(groups(space, first), groups(space, second)))[at::7]:
                    joint = set(group_cells(space, one)) & set(group_cells(space, two))
                    if not joint:
                        continue
                    question = tuple(1 if cell in joint else 0 for cell in range(space.many))
                    coarse = [group for group in groups(space, meet(first, second))
                              if is_inside(space, min(joint), group)]
                    a, b, c = sums(space, (one, two, coarse[0]), amounts)
                    self.assertEqual(self.check(space, first, second, kept, question), (max(0, a + b - c), min(a, b)))

    def test_determined_questions_have_one_value(self):
        draw = random.Random(3)
        for space in sample_spaces():
            every = all_groupings(space)
            for seed in range(12):
                first, second = draw.choice(every), draw.choice(every)
                amounts = drawn(space, seed, 9)
                kept = kept_of(space, first, second, amounts)
                family = family_of(space, (first, second))
                question = [0] * space.many
                for group in family:
                    times = draw.randint(-4, 4)
                    question = [one + times * two for one, two in zip(question, indicator(space, group))]
                self.assertIs(is_determined(space, family, tuple(question)), True)
                told = value_of(space, family, sums(space, family, amounts), tuple(question))
                self.assertEqual(self.check(space, first, second, kept, tuple(question)), (told, told))

    def test_two_equal_groupings(self):
        space = example()
        question = (3, -1, 4, 0, 5, -2)
        self.assertEqual(self.check(space, (1, 0), (1, 0), ((10, 7), (10, 7)), question), (-24, 75))
        self.assertEqual(self.check(space, (0, 0), (0, 0), ((4,), (4,)), question), (-8, 20))
        self.assertEqual(self.check(space, (2, 1), (2, 1), ((1, 2, 3, 4, 5, 6),) * 2, question), (26, 26))

    def test_grouping_of_all_cells(self):
        space = example()
        question = (3, -1, 4, 0, 5, -2)
        self.assertEqual(self.check(space, (0, 0), (2, 0), ((6,), (1, 2, 3)), question), (-1 - 6 + 0, 3 + 8 + 15))
        self.assertEqual(self.check(space, (0, 1), (0, 0), ((6, 4), (10,)), question), (18 - 8, 30))

    def test_sums_of_zero(self):
        for space in sample_spaces():
            for first, second in itertools.product(all_groupings(space)[::3], repeat=2):
                kept = kept_of(space, first, second, (0,) * space.many)
                self.assertEqual(self.check(space, first, second, kept, drawn_question(space, 4)), (0, 0))

    def test_example(self):
        # 30 in the north of 45, and 35 in may: at least 20 of them are of both.
        space = example()
        north_in_may = (0, 1, 0, 1, 0, 0)
        self.assertEqual(self.check(space, (1, 0), (0, 1), ((30, 15), (10, 35)), north_in_may), (20, 30))


class ForcedTest(unittest.TestCase):
    def test_small_tables_against_all_amounts(self):
        kinds = set()
        for space, first, second, kept, every in tables():
            expected = tuple((cell, column[0]) for cell, column in enumerate(zip(*every)) if len(set(column)) == 1)
            self.assertEqual(bounds.forced(space, first, second, kept), expected)
            kinds.add((bool(expected), len(expected) == space.many))
        self.assertEqual(kinds, {(False, False), (True, False), (True, True)})

    def test_against_the_bounds_of_each_cell(self):
        draw = random.Random(5)
        for space in sample_spaces():
            every = all_groupings(space)
            for seed in range(6):
                first, second = draw.choice(every), draw.choice(every)
                kept = kept_of(space, first, second, drawn(space, seed, 3))
                expected = []
                for cell in range(space.many):
                    low = bounds.least(space, first, second, kept, unit(space, cell))[0]
                    if bounds.greatest(space, first, second, kept, unit(space, cell))[0] == low:
                        expected.append((cell, low))
                self.assertEqual(bounds.forced(space, first, second, kept), tuple(expected))

    def test_by_hand(self):
        space = example()
        for first, second, kept, told in (
                # A sum of 0 forces all of its cells, and with them those of may.
                ((2, 0), (0, 1), ((0, 3, 4), (7, 0)), ((0, 0), (1, 0), (2, 3), (3, 0), (4, 4), (5, 0))),
                ((2, 0), (0, 1), ((0, 3, 4), (5, 2)), ((0, 0), (1, 0))),
                ((2, 0), (0, 1), ((1, 3, 4), (5, 3)), ()),
                # All but one group of the towns is 0.
                ((2, 0), (0, 1), ((0, 9, 0), (5, 4)), ((0, 0), (1, 0), (2, 5), (3, 4), (4, 0), (5, 0))),
                # Two cells of the north can stand for each other, one of the south cannot.
                ((1, 0), (0, 1), ((0, 9), (5, 4)), ((0, 0), (1, 0), (2, 0), (3, 0), (4, 5), (5, 4))),
                ((1, 0), (0, 1), ((9, 0), (5, 4)), ((4, 0), (5, 0))),
                ((2, 1), (0, 0), ((1, 2, 3, 4, 5, 6), (21,)), ((0, 1), (1, 2), (2, 3), (3, 4), (4, 5), (5, 6))),
                ((0, 0), (0, 0), ((0,), (0,)), tuple((cell, 0) for cell in range(6))),
                ((0, 0), (0, 0), ((1,), (1,)), ()),
                ((1, 1), (2, 0), ((0, 7, 2, 3), (3, 4, 5)), ((0, 0), (1, 3), (2, 0), (3, 4), (4, 2), (5, 3))),
                ((1, 1), (2, 0), ((1, 6, 2, 3), (3, 4, 5)), ((4, 2), (5, 3)))):
            self.assertEqual(bounds.forced(space, first, second, kept), told, (first, second, kept))

    def test_least_amount_above_zero_that_is_not_forced(self):
        space = example()
        self.assertEqual(bounds.forced(space, (2, 0), (0, 1), ((1, 1, 8), (1, 9))), ())
        self.assertEqual(bounds.forced(space, (2, 0), (0, 1), ((1, 1, 8), (0, 10))),
                         ((0, 0), (1, 1), (2, 0), (3, 1), (4, 0), (5, 8)))


if __name__ == "__main__":
    unittest.main()
