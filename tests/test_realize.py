"""Which sums facts have, and the fractions that show that none have them: points 38 and 39."""

import random
import unittest
from fractions import Fraction
from math import gcd

from cubesums.facts import sums
from cubesums.groupings import all_groupings, groups, in_order
from cubesums.realize import Ladder, realize
from cubesums.space import Space
from exact import drawn_amounts, drawn_families, dot, families, halves, indicators
from samples import all_groups, example, sample_spaces

REGIONS = (("north", ""), ("south", ""))


class RealizeTest(unittest.TestCase):
    def check_facts(self, space, family, wanted):
        found = realize(space, family, wanted)
        self.assertEqual((type(found), len(found), found[0]), (tuple, 2, "facts"))
        amounts = found[1]
        self.assertEqual((type(amounts), len(amounts)), (tuple, space.many))
        self.assertTrue(all(type(amount) is int for amount in amounts))
        self.assertEqual(sums(space, family, amounts), tuple(wanted))

    def check_none(self, space, family, wanted):
        """Check both conditions; return the multiples at the cells and the multiple of the sums."""
        found = realize(space, family, wanted)
        self.assertEqual((type(found), len(found), found[0]), (tuple, 2, "none"))
        multiples = found[1]
        self.assertEqual((type(multiples), len(multiples)), (tuple, len(family)))
        for top, bottom in multiples:
            self.assertEqual((type(top), type(bottom), gcd(top, bottom)), (int, int, 1))
            self.assertGreaterEqual(bottom, 1)
        exact = [Fraction(*multiple) for multiple in multiples]
        rows = indicators(space, family)
        at_cells = [dot(exact, column) for column in zip(*rows)]
        self.assertTrue(all(total.denominator == 1 for total in at_cells))
        self.assertNotEqual(dot(exact, wanted).denominator, 1)
        return at_cells

    def check(self, space, family, wanted):
        kind = realize(space, family, wanted)[0]
        if kind == "facts":
            self.check_facts(space, family, wanted)
        else:
            self.check_none(space, family, wanted)
        return kind

    def test_sums_of_drawn_facts(self):
        for space in sample_spaces():
            for at, family in enumerate([*families(space), *drawn_families(space, 6, 40, 9)]):
                for most in (3, 10 ** 6):
                    self.check_facts(space, family, sums(space, family, drawn_amounts(space, at, most)))

    def test_large_sums(self):
        for space in sample_spaces():
            for at, family in enumerate(drawn_families(space, 4, 30, 2)):
                wanted = sums(space, family, drawn_amounts(space, at, 10 ** 18))
                self.check_facts(space, family, wanted)
                wanted = sums(space, family, drawn_amounts(space, at, 10 ** 60))
                self.check_facts(space, family, wanted)

    def test_zero_and_negative_sums(self):
        for space in sample_spaces():
            for family in families(space):
                self.check_facts(space, family, (0,) * len(family))
                minus = tuple(-abs(amount) for amount in drawn_amounts(space, 3))
                self.check_facts(space, family, sums(space, family, minus))

    def test_no_group(self):
        for space in sample_spaces():
            self.check_facts(space, (), ())

    def test_one_group_has_any_sum(self):
        for space in sample_spaces():
            for group in all_groups(space):
                for wanted in (0, 1, -7, 10 ** 40):
                    self.check_facts(space, (group,), (wanted,))

    def test_groups_of_one_grouping_have_any_sums(self):
        draw = random.Random(4)
        for space in sample_spaces():
            for grouping in all_groupings(space):
                family = groups(space, grouping)
                self.check_facts(space, family, tuple(draw.randint(-9, 9) for _ in family))

    def test_sums_that_do_not_add_up(self):
        space = example()
        family = (("", ""),) + REGIONS
        self.check_facts(space, family, (45, 30, 15))
        for wanted in ((46, 30, 15), (44, 30, 15), (0, 30, 15), (45, 31, 15), (45, 30, -15),
                       (10 ** 18 + 1, 10 ** 18, 0)):
            at_cells = self.check_none(space, family, wanted)
            self.assertEqual(at_cells, [0] * 6)

    def test_crossing_groupings_have_one_total(self):
        for space in sample_spaces():
            if len(space.dimensions) < 2:
                continue
            last = [space.depth(at) for at in range(len(space.dimensions))]
            one = groups(space, (last[0],) + (0,) * (len(last) - 1))
            two = groups(space, (0, last[1]) + (0,) * (len(last) - 2))
            family = in_order(space, one + two)
            wanted = sums(space, family, drawn_amounts(space, 8))
            self.check_facts(space, family, wanted)
            for at in range(len(family)):
                self.check_none(space, family, wanted[:at] + (wanted[at] + 1,) + wanted[at + 1:])

    def test_sums_changed_by_a_little(self):
        kinds = set()
        for space in sample_spaces():
            for at, family in enumerate([*families(space), *drawn_families(space, 6, 25, 5)]):
                wanted = sums(space, family, drawn_amounts(space, at))
                for place in range(len(family)):
                    for change in (1, -2):
                        changed = wanted[:place] + (wanted[place] + change,) + wanted[place + 1:]
                        kinds.add(self.check(space, family, changed))
        self.assertEqual(kinds, {"facts", "none"})

    def test_a_group_twice(self):
        space = example()
        family = (("", ""), ("", ""))
        self.check_facts(space, family, (5, 5))
        self.check_none(space, family, (5, 6))

    def test_groups_with_the_same_cells(self):
        # The leaf of each member of level 1 is the same at levels 2 and 3.
        space = Space((("chain", ("a/b/c", "d/e/f")),))
        family = (("a",), ("d",), ("a/b",), ("a/b/c",))
        self.check_facts(space, family, (3, 4, 3, 3))
        self.check_none(space, family, (3, 4, 3, 2))
        self.check_none(space, family, (3, 4, 2, 3))

    def test_only_fractions_have_the_sums(self):
        space, family = halves()
        draw = random.Random(6)
        for _ in range(30):
            wanted = [draw.randint(-20, 20) for _ in family]
            # Each of the three cells counts twice in the first three sums, and so does cell 0 but once more.
            odd = (sum(wanted[:3]) - 3 * wanted[3] - sum(wanted[4:])) & 1
            if odd:
                at_cells = self.check_none(space, family, wanted)
                self.assertNotEqual(at_cells, [0] * 8)
            else:
                self.check_facts(space, family, wanted)
        self.check_none(space, family, (10 ** 18 + 1, 10 ** 18, 0, 0, 0, 0, 0))
        self.check_facts(space, family, (10 ** 18 + 1, 10 ** 18 + 1, 0, 0, 0, 0, 0))

    def test_fractions_in_any_order_of_the_family(self):
        space, family = halves()
        draw = random.Random(7)
        for _ in range(30):
            order = draw.sample(range(len(family)), len(family))
            other = tuple(family[place] for place in order)
            for wanted in ((1, 0, 0, 0, 0, 0, 0), (2, 1, 1, 1, 0, 1, 0), (1, 1, 0, 0, 0, 0, 0)):
                kind = self.check(space, other, tuple(wanted[place] for place in order))
                self.assertEqual(kind, realize(space, family, wanted)[0])

    def test_fractions_and_sums_that_do_not_add_up(self):
        space, family = halves()
        family = (("", "", ""),) + family + (space.coordinates(1), space.coordinates(2), space.coordinates(4))
        draw = random.Random(8)
        kinds = set()
        for seed in range(60):
            wanted = list(sums(space, family, drawn_amounts(space, seed)))
            for _ in range(draw.randint(0, 2)):
                wanted[draw.randrange(len(wanted))] += draw.choice((1, 2, -1))
            kinds.add(self.check(space, family, tuple(wanted)))
        self.assertEqual(kinds, {"facts", "none"})

    def test_small_sums_against_all_amounts(self):
        # Whole amounts that have small sums over these groups can be chosen small, too.
        space = example()
        family = (("", "june"), ("north", "may"), ("north/oslo", ""), ("south", "may"), ("", "may"))
        reached = set()
        for code in range(5 ** 6):
            amounts = tuple(code // 5 ** place - code // 5 ** (place + 1) * 5 - 2 for place in range(6))
            reached.add(sums(space, family, amounts))
        draw = random.Random(9)
        for _ in range(200):
            wanted = tuple(draw.randint(-1, 1) for _ in family)
            self.assertEqual(self.check(space, family, wanted) == "facts", wanted in reached)

    def test_many_groups_of_many_cells(self):
        # Among as many groups there are some that share their cells as those of halves() do.
        leaves = ("x/p", "x/q", "y/r", "y/s")
        space = Space((("a", leaves), ("b", leaves), ("c", leaves[:3])))
        draw = random.Random(10)
        kinds = []
        for at, family in enumerate(drawn_families(space, 40, 40, 10)):
            wanted = list(sums(space, family, drawn_amounts(space, at, 10 ** 9)))
            self.check_facts(space, family, tuple(wanted))
            wanted[draw.randrange(len(wanted))] += 1
            kinds.append(self.check(space, family, tuple(wanted)))
        self.assertEqual(set(kinds), {"facts", "none"})


class LadderTest(unittest.TestCase):
    """The steps in integers, with rows that no indicators are, so that common divisors matter more."""

    def check(self, rows, wanted):
        ladder = Ladder(rows, len(rows[0]))
        for place, amount in enumerate(wanted):
            shown = ladder.climb(place, amount)
            if shown is not None:
                multiples = [Fraction(0)] * len(rows)
                for at, multiple in shown:
                    multiples[at] = Fraction(*multiple)
                self.assertTrue(all(dot(multiples, column).denominator == 1 for column in zip(*rows)))
                self.assertNotEqual(dot(multiples, wanted).denominator, 1)
                return False
        amounts = [ladder.sum_at(len(rows) + cell) for cell in range(len(rows[0]))]
        self.assertEqual([dot(row, amounts) for row in rows], list(wanted))
        return True

    def test_one_row(self):
        for row, wanted, told in (((6, 10, 15), 1, True), ((6, 10), 1, False), ((6, 10), -4, True), ((7,), 21, True),
                                  ((7,), 20, False), ((0, 0), 0, True), ((0, 0), 1, False), ((-4, 6), 10 ** 20, True),
                                  ((-4, 6), 10 ** 20 + 1, False), ((0, -9, 0, 12), 3, True), ((5, 0, 5), 4, False)):
            self.assertIs(self.check([row], [wanted]), told)

    def test_drawn_rows(self):
        draw = random.Random(11)
        kinds = set()
        for _ in range(400):
            cells = draw.randint(1, 5)
            rows = [[draw.randint(-6, 6) for _ in range(cells)] for _ in range(draw.randint(1, 5))]
            amounts = [draw.randint(-9, 9) for _ in range(cells)]
            wanted = [dot(row, amounts) for row in rows]
            self.assertIs(self.check(rows, wanted), True)
            wanted[draw.randrange(len(rows))] += draw.randint(1, 3)
            kinds.add(self.check(rows, wanted))
        self.assertEqual(kinds, {True, False})


if __name__ == "__main__":
    unittest.main()
