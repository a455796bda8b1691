"""Groupings, groups, their order and numbers, meet, join, room and indicator: points 9 to 14."""

import itertools
import unittest

from cubesums import groupings
from cubesums.errors import BadGrouping, NoSuchGroup
from cubesums.space import Space
from samples import CHAIN, MONTH, NEAR, TOWN, all_groups, depth_of, example, is_inside, level
from samples import members_by_hand, sample_spaces

WRONG_GROUPINGS = ((), (0,), (2,), (1, 1, 0), (0, 0, 0, 0), (-1, 0), (0, -1), (3, 0), (0, 2), (2, 9), (-1, -1),
                   (-3, 1), (2, -2))
WRONG_GROUPS = ((), ("",), ("north",), ("", "", ""), ("north", "may", ""), ("may", "north"), ("north/", "may"),
                ("oslo", "may"), ("north", "july"), ("north/rome", ""), ("", "north"), ("*", "*"), ("north", "*"),
                ("/", ""), ("north", " "), ("North", ""), ("north/oslo/x", "may"), ("sum", "where"),
                ("north", "may "), ("\n", ""), ("month", ""), ("nort", ""), ("norths", ""))


def groupings_by_hand(space):
    """Point 9: all groupings, ascending."""
    depths = [depth_of(leaves) for _, leaves in space.dimensions]
    return tuple(sorted(itertools.product(*[range(depth + 1) for depth in depths])))


def groups_by_hand(space, grouping):
    """Point 11: the groups of a grouping, by member of the first dimension first."""
    rows = [members_by_hand(leaves, words) for (_, leaves), words in zip(space.dimensions, grouping)]
    return tuple(itertools.product(*rows))


class GroupingTest(unittest.TestCase):
    def test_all_groupings(self):
        self.assertEqual(groupings.all_groupings(example()), ((0, 0), (0, 1), (1, 0), (1, 1), (2, 0), (2, 1)))
        self.assertEqual(groupings.all_groupings(Space((MONTH,))), ((0,), (1,)))
        for space in sample_spaces():
            self.assertEqual(groupings.all_groupings(space), groupings_by_hand(space))

    def test_check_takes_all_groupings(self):
        for space in sample_spaces():
            for grouping in groupings_by_hand(space):
                self.assertIsNone(groupings.check_grouping(space, grouping))

    def test_each_function_refuses_what_is_no_grouping(self):
        space = example()
        calls = (groupings.check_grouping, groupings.groups, groupings.group_numbers, groupings.room,
                 lambda space, grouping: groupings.group_of(space, grouping, 0))
        for call in calls:
            for grouping in WRONG_GROUPINGS:
                with self.subTest(grouping), self.assertRaises(BadGrouping):
                    call(space, grouping)

    def test_levels_just_outside(self):
        for space in sample_spaces():
            depths = tuple(depth_of(leaves) for _, leaves in space.dimensions)
            for at in range(len(depths)):
                for wrong in (-1, depths[at] + 1):
                    with self.assertRaises(BadGrouping):
                        groupings.check_grouping(space, depths[:at] + (wrong,) + depths[at + 1:])
            with self.assertRaises(BadGrouping):
                groupings.check_grouping(space, depths[1:])
            with self.assertRaises(BadGrouping):
                groupings.check_grouping(space, depths + (0,))


class GroupTest(unittest.TestCase):
    def test_example(self):
        space = example()
        self.assertEqual(groupings.groups(space, (1, 0)), (("north", ""), ("south", "")))
        self.assertEqual(groupings.groups(space, (0, 0)), (("", ""),))
        self.assertEqual(groupings.groups(space, (1, 1)),
                         (("north", "june"), ("north", "may"), ("south", "june"), ("south", "may")))
        self.assertEqual(groupings.groups(space, (0, 1)), (("", "june"), ("", "may")))

    def test_groups_in_order(self):
        for space in sample_spaces():
            for grouping in groupings_by_hand(space):
                with self.subTest(grouping):
                    self.assertEqual(groupings.groups(space, grouping), groups_by_hand(space, grouping))

    def test_groups_at_the_last_levels_are_the_cells(self):
        for space in sample_spaces():
            deepest = groupings_by_hand(space)[-1]
            cells = tuple(space.coordinates(cell) for cell in range(space.many))
            self.assertEqual(groupings.groups(space, deepest), cells)

    def test_check_takes_all_groups(self):
        for space in sample_spaces():
            for group in all_groups(space):
                self.assertIsNone(groupings.check_group(space, group))

    def test_each_function_refuses_what_is_no_group(self):
        space = example()
        calls = (groupings.check_group, groupings.group_cells, groupings.indicator,
                 lambda space, group: groupings.in_order(space, (group,)),
                 lambda space, group: groupings.in_order(space, (("", ""), group)),
                 lambda space, group: groupings.in_order(space, (group, ("north", "may"))))
        for call in calls:
            for group in WRONG_GROUPS:
                with self.subTest(group), self.assertRaises(NoSuchGroup):
                    call(space, group)

    def test_member_of_another_dimension(self):
        space = Space((MONTH, TOWN, CHAIN))
        self.assertIsNone(groupings.check_group(space, ("may", "north", "a/b")))
        for group in (("north", "may", "a/b"), ("may", "a/b", "north"), ("may", "north", "north")):
            with self.assertRaises(NoSuchGroup):
                groupings.check_group(space, group)

    def test_grouping_of(self):
        self.assertEqual(groupings.grouping_of(("north", "")), (1, 0))
        self.assertEqual(groupings.grouping_of(("", "may")), (0, 1))
        self.assertEqual(groupings.grouping_of(("north/oslo", "may")), (2, 1))
        self.assertEqual(groupings.grouping_of(("",)), (0,))
        self.assertEqual(groupings.grouping_of(("a/b/c", "a/b", "a")), (3, 2, 1))
        for space in sample_spaces():
            for grouping in groupings_by_hand(space):
                for group in groups_by_hand(space, grouping):
                    self.assertEqual(groupings.grouping_of(group), grouping)

    def test_groups_with_the_same_cells_are_different(self):
        space = Space((CHAIN,))
        self.assertEqual(groupings.grouping_of(("a",)), (1,))
        self.assertEqual(groupings.grouping_of(("a/b",)), (2,))
        self.assertEqual(groupings.group_cells(space, ("a",)), groupings.group_cells(space, ("a/b",)))

    def test_group_of(self):
        space = example()
        self.assertEqual(groupings.group_of(space, (1, 0), 3), ("north", ""))
        self.assertEqual(groupings.group_of(space, (0, 1), 3), ("", "may"))
        self.assertEqual(groupings.group_of(space, (0, 0), 5), ("", ""))
        self.assertEqual(groupings.group_of(space, (2, 1), 4), ("south/rome", "june"))

    def test_each_cell_is_in_its_group_alone(self):
        for space in sample_spaces():
            for grouping in groupings_by_hand(space):
                for cell in range(space.many):
                    inside = [group for group in groups_by_hand(space, grouping) if is_inside(space, cell, group)]
                    self.assertEqual([groupings.group_of(space, grouping, cell)], inside)


class NumberTest(unittest.TestCase):
    def test_example(self):
        space = example()
        self.assertEqual(groupings.group_numbers(space, (0, 0)), (0, 0, 0, 0, 0, 0))
        self.assertEqual(groupings.group_numbers(space, (1, 0)), (0, 0, 0, 0, 1, 1))
        self.assertEqual(groupings.group_numbers(space, (0, 1)), (0, 1, 0, 1, 0, 1))
        self.assertEqual(groupings.group_numbers(space, (1, 1)), (0, 1, 0, 1, 2, 3))
        self.assertEqual(groupings.group_numbers(space, (2, 0)), (0, 0, 1, 1, 2, 2))
        self.assertEqual(groupings.group_numbers(space, (2, 1)), (0, 1, 2, 3, 4, 5))

    def test_numbers_at_each_cell(self):
        for space in sample_spaces():
            for grouping in groupings_by_hand(space):
                numbers = groupings.group_numbers(space, grouping)
                self.assertIs(type(numbers), tuple)
                self.assertEqual(len(numbers), space.many)
                groups = groups_by_hand(space, grouping)
                for cell, number in enumerate(numbers):
                    self.assertTrue(is_inside(space, cell, groups[number]))

    def test_room(self):
        space = example()
        rooms = [groupings.room(space, grouping) for grouping in groupings_by_hand(space)]
        self.assertEqual(rooms, [1, 2, 2, 4, 3, 6])
        for space in sample_spaces():
            for grouping in groupings_by_hand(space):
                self.assertEqual(groupings.room(space, grouping), len(groups_by_hand(space, grouping)))


class OrderTest(unittest.TestCase):
    def test_groups_in_any_order(self):
        space = example()
        some = (("south", ""), ("north/oslo", "june"), ("", ""), ("north", "may"), ("", "may"), ("north", ""))
        ordered = (("", ""), ("", "may"), ("north", ""), ("south", ""), ("north", "may"), ("north/oslo", "june"))
        self.assertEqual(groupings.in_order(space, some), ordered)
        self.assertEqual(groupings.in_order(space, some[::-1]), ordered)

    def test_groups_twice(self):
        space = example()
        some = (("south", ""), ("north", ""), ("south", ""), ("north", ""), ("north", ""))
        self.assertEqual(groupings.in_order(space, some), (("north", ""), ("south", "")))

    def test_none_and_one(self):
        self.assertEqual(groupings.in_order(example(), ()), ())
        self.assertEqual(groupings.in_order(example(), (("", ""),)), (("", ""),))

    def test_groupings_go_ahead_of_members(self):
        space = Space((MONTH, TOWN))
        self.assertEqual(groupings.in_order(space, (("june", ""), ("", "south/rome"), ("", "south"))),
                         (("", "south"), ("", "south/rome"), ("june", "")))

    def test_all_groups_of_a_space(self):
        for space in sample_spaces():
            every = all_groups(space)
            mixed = every[::-2] + every[::3] + every[::-1]
            self.assertEqual(groupings.in_order(space, tuple(mixed)), tuple(every))

    def test_members_whose_words_begin_alike(self):
        space = Space((NEAR,))
        self.assertEqual(groupings.in_order(space, (("ab/a",), ("a/bc",), ("ab",), ("a/b",), ("a",))),
                         (("a",), ("ab",), ("a/b",), ("a/bc",), ("ab/a",)))


class CoarserTest(unittest.TestCase):
    def test_coarser(self):
        self.assertIs(groupings.coarser((0, 1), (2, 1)), True)
        self.assertIs(groupings.coarser((1, 0), (1, 1)), True)
        self.assertIs(groupings.coarser((0,), (3,)), True)

    def test_finer(self):
        self.assertIs(groupings.coarser((2, 1), (0, 1)), False)
        self.assertIs(groupings.coarser((1, 1), (1, 0)), False)

    def test_equal(self):
        self.assertIs(groupings.coarser((1, 0, 2), (1, 0, 2)), True)
        self.assertIs(groupings.coarser((0, 0), (0, 0)), True)

    def test_neither(self):
        for one, two in (((1, 0), (0, 1)), ((0, 1, 2), (0, 2, 1)), ((2, 0), (1, 1))):
            self.assertIs(groupings.coarser(one, two), False)
            self.assertIs(groupings.coarser(two, one), False)

    def test_meet_and_join(self):
        self.assertEqual(groupings.meet((2, 0), (1, 1)), (1, 0))
        self.assertEqual(groupings.join((2, 0), (1, 1)), (2, 1))
        self.assertEqual(groupings.meet((0, 1), (2, 1)), (0, 1))
        self.assertEqual(groupings.join((0, 1), (2, 1)), (2, 1))
        self.assertEqual(groupings.meet((3,), (3,)), (3,))
        self.assertEqual(groupings.join((3,), (3,)), (3,))
        self.assertEqual(groupings.meet((1, 2, 3), (3, 2, 1)), (1, 2, 1))
        self.assertEqual(groupings.join((1, 2, 3), (3, 2, 1)), (3, 2, 3))

    def test_all_pairs(self):
        space = Space((NEAR, TOWN, MONTH))
        every = groupings_by_hand(space)
        for one in every:
            for two in every:
                below = [other for other in every if groupings.coarser(other, one) and groupings.coarser(other, two)]
                above = [other for other in every if groupings.coarser(one, other) and groupings.coarser(two, other)]
                self.assertEqual(groupings.meet(one, two), max(below, key=sum))
                self.assertEqual(groupings.join(one, two), min(above, key=sum))
                self.assertIs(groupings.coarser(one, two), all(a <= b for a, b in zip(one, two)))


class CellsOfGroupTest(unittest.TestCase):
    def test_example(self):
        space = example()
        self.assertEqual(groupings.group_cells(space, ("north", "")), (0, 1, 2, 3))
        self.assertEqual(groupings.group_cells(space, ("", "may")), (1, 3, 5))
        self.assertEqual(groupings.group_cells(space, ("south/rome", "june")), (4,))
        self.assertEqual(groupings.group_cells(space, ("", "")), (0, 1, 2, 3, 4, 5))
        self.assertEqual(groupings.indicator(space, ("north", "may")), (0, 1, 0, 1, 0, 0))
        self.assertEqual(groupings.indicator(space, ("", "")), (1, 1, 1, 1, 1, 1))

    def test_cells_and_indicators_of_all_groups(self):
        for space in sample_spaces():
            for group in all_groups(space):
                inside = [is_inside(space, cell, group) for cell in range(space.many)]
                cells = tuple(cell for cell in range(space.many) if inside[cell])
                with self.subTest(group):
                    self.assertEqual(groupings.group_cells(space, group), cells)
                    self.assertEqual(groupings.indicator(space, group), tuple(int(held) for held in inside))
                    self.assertEqual({type(worth) for worth in groupings.indicator(space, group)}, {int})

    def test_indicators_of_a_grouping_add_up_to_one(self):
        for space in sample_spaces():
            for grouping in groupings_by_hand(space):
                rows = [groupings.indicator(space, group) for group in groupings.groups(space, grouping)]
                self.assertEqual([sum(column) for column in zip(*rows)], [1] * space.many)

    def test_levels_of_samples(self):
        self.assertEqual([level(path) for path in ("", "a", "a/b", "a/b/c")], [0, 1, 2, 3])


if __name__ == "__main__":
    unittest.main()
