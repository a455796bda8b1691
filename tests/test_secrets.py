"""Opened cells, opened groups and groups to withhold: points 53 and 54."""

import itertools
import random
import unittest

from cubesums import secrets
from cubesums.errors import BadGrouping, TooLarge
from cubesums.groupings import all_groupings, groups, indicator
from cubesums.space import Space
from exact import adds_up, drawn_families, drawn_question, families, halves, indicators, mixed, unit
from samples import CHAIN, EXAMPLE, MONTH, all_groups, example, sample_spaces

REGIONS = (("north", ""), ("south", ""))


class OpenedTest(unittest.TestCase):
    def check(self, space, family):
        rows = indicators(space, family)
        cells = tuple(cell for cell in range(space.many) if adds_up(rows, unit(space, cell)))
        self.assertEqual(secrets.opened_cells(space, family), cells)
        every = all_groupings(space)
        for grouping in (every[0], every[len(every) // 2], every[-1]):
            expected = tuple(group for group in groups(space, grouping) if adds_up(rows, indicator(space, group)))
            self.assertEqual(secrets.opened_groups(space, family, grouping), expected)
        return len(cells) > 0

    def test_against_elimination(self):
        kinds = set()
        for space in sample_spaces()[:5]:
            for family in families(space):
                kinds.add(self.check(space, family))
        for space in sample_spaces()[5:]:
            for family in [*families(space)[:4], *drawn_families(space, 2, 25, 1)]:
                kinds.add(self.check(space, family))
        self.assertEqual(kinds, {True, False})

    def test_cells_by_hand(self):
        space = example()
        for family, told in (((), ()), (REGIONS, ()), ((("north/oslo", "may"),), (3,)),
                             (REGIONS + (("south", "may"),), (4, 5)),
                             ((("north", "june"), ("north", "may"), ("north/oslo", "june")), (0, 2)),
                             # The total and all towns but one tell the last one, and june its may.
                             ((("", ""), ("north", ""), ("south", "june")), (4, 5)),
                             (groups(space, (2, 1)), (0, 1, 2, 3, 4, 5)),
                             (groups(space, (2, 0)) + groups(space, (0, 1)), ())):
            self.assertEqual(secrets.opened_cells(space, family), told)

    def test_cells_that_only_fractions_of_sums_tell(self):
        space, family = halves()
        self.assertEqual(secrets.opened_cells(space, family), (0, 1, 2, 3, 4, 5, 6))

    def test_groups_by_hand(self):
        space = example()
        for family, grouping, told in (
                (REGIONS, (0, 0), (("", ""),)), (REGIONS, (1, 0), REGIONS), (REGIONS, (2, 0), (("south/rome", ""),)),
                (REGIONS, (2, 1), ()), ((), (0, 0), ()), ((), (1, 0), ()), ((("", ""), ("north", "")), (1, 0), REGIONS),
                (REGIONS + (("", "may"),), (0, 1), (("", "june"), ("", "may"))),
                (groups(space, (2, 1)), (1, 1), groups(space, (1, 1))),
                (groups(space, (1, 1)), (2, 1), (("south/rome", "june"), ("south/rome", "may")))):
            self.assertEqual(secrets.opened_groups(space, family, grouping), told)

    def test_groups_with_the_same_cells(self):
        space = Space((CHAIN, MONTH))
        self.assertEqual(secrets.opened_groups(space, (("a", "may"),), (3, 1)), (("a/b/c", "may"),))
        self.assertEqual(secrets.opened_cells(space, (("a", "may"),)), (1,))

    def test_bad_groupings(self):
        space = example()
        for grouping in ((), (0,), (0, 0, 0), (3, 0), (0, 2), (-1, 0), (0, -1)):
            for family in ((), REGIONS):
                with self.assertRaises(BadGrouping):
                    secrets.opened_groups(space, family, grouping)


class WithholdTest(unittest.TestCase):
    def check(self, space, family, questions):
        """Compare with all choices: of the fewest, then of the first places."""
        expected = None
        for many in range(len(family) + 1):
            for places in itertools.combinations(range(len(family)), many):
                rows = indicators(space, [group for place, group in enumerate(family) if place not in places])
                if expected is None and not any(adds_up(rows, question) for question in questions):
                    expected = tuple(family[place] for place in places)
        self.assertEqual(secrets.withhold(space, family, questions), expected)
        return None if expected is None else len(expected)

    def test_against_all_choices(self):
        draw = random.Random(1)
        told = set()
        for dimensions in (EXAMPLE, (MONTH,), (CHAIN, MONTH), (("a", ("x", "y")), ("b", ("x", "y", "z")))):
            space = Space(dimensions)
            every = all_groups(space)
            for family in drawn_families(space, 8, 6, 2):
                row = [indicator(space, group) for group in draw.sample(every, min(4, len(every)))]
                row += [mixed(space, family, 1), drawn_question(space, 1), unit(space, 0), (1,) * space.many]
                for many in (1, 2, 4):
                    told.add(self.check(space, family, tuple(draw.sample(row, many))))
        self.assertGreaterEqual(told, {0, 1, 2, 3})

    def test_by_hand(self):
        space = example()
        north, south, june, may = ("north", ""), ("south", ""), ("", "june"), ("", "may")
        total = (1,) * 6
        rows = {group: indicator(space, group) for group in (north, south, june, may)}
        for family, questions, told in (
                ((), (), ()), ((), (total,), ()), ((north, south), (), ()), ((north,), (total,), ()),
                ((north, south), (total,), (north,)), ((june, may, north, south), (total,), (june, north)),
                ((june, may, north, south), (rows[south],), (june, south)),
                ((june, may, north), (rows[may],), (may,)),
                ((june, may, north, south), (rows[north], rows[june]), (june, north)),
                ((("", ""), june, may), (rows[june],), (("", ""), june)),
                ((("", ""), june, may), (rows[june], rows[may]), (june, may)),
                ((("", ""), june, may), (total,), (("", ""), june)), ((june, may), (rows[north],), ())):
            self.assertEqual(secrets.withhold(space, family, questions), told)

    def test_question_that_is_zero_everywhere(self):
        space = example()
        for family in ((), REGIONS):
            for questions in (((0,) * 6,), ((1,) * 6, (0,) * 6), ((0,) * 6, (1, 0, 0, 0, 0, 0))):
                self.assertIsNone(secrets.withhold(space, family, questions))

    def test_eight_groups_and_nine(self):
        space = example()
        family = groups(space, (0, 0)) + groups(space, (0, 1)) + groups(space, (1, 0)) + groups(space, (1, 1))
        self.assertEqual(len(family), 9)
        for questions in ((), ((1,) * 6,), ((0,) * 6,)):
            with self.assertRaises(TooLarge) as caught:
                secrets.withhold(space, family, questions)
            self.assertEqual(caught.exception.count, 9)
        with self.assertRaises(TooLarge) as caught:
            secrets.withhold(space, family + groups(space, (2, 0)), ())
        self.assertEqual(caught.exception.count, 12)
        self.check(space, family[1:], ((1,) * 6,))
        self.check(space, family[:8], ((1,) * 6,))
        self.assertEqual(secrets.withhold(space, family[1:], tuple(indicators(space, family[1:]))), family[1:])

    def test_more_than_eight_questions(self):
        space = example()
        questions = tuple(unit(space, cell) for cell in range(6)) * 2
        self.assertEqual(secrets.withhold(space, REGIONS + (("south", "may"),), questions), (("south", "may"),))


if __name__ == "__main__":
    unittest.main()
