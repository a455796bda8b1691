"""Families of whole groupings, what is missing, required, redundant and cheapest, and further questions: 40 to 47."""

import itertools
import random
import unittest

from cubesums import needs
from cubesums.determinacy import is_determined, rank
from cubesums.errors import TooLarge
from cubesums.groupings import all_groupings, coarser, groups, indicator, room
from cubesums.space import Space
from cubesums.vectors import as_fractions, component
from exact import adds_up, drawn_families, drawn_question, families, indicators, mixed, rank_of, unit
from samples import CHAIN, EXAMPLE, MONTH, NEAR, TOWN, all_groups, example, integers, sample_spaces

# Each level of these dimensions has more members than the one above it.
DEEP = ("deep", ("a/a/a", "a/a/b", "a/b/a", "b/a/a"))
DEEPER = ("deeper", ("a/a/a", "a/a/b", "a/b/a", "b/a/a"))
FLAT = ("flat", ("a/a", "a/b", "b/a"))
# None of these groupings of the three is coarser than another one.
APART = ((3, 1, 0), (2, 2, 0), (1, 3, 0), (3, 0, 1), (2, 1, 1), (1, 2, 1), (0, 3, 1), (2, 0, 2), (1, 1, 2), (0, 2, 2))
SMALL = (EXAMPLE, (MONTH, TOWN), (NEAR,), (CHAIN, MONTH), (("a", ("x", "y")), ("b", ("x", "y")), ("c", ("x", "y"))))


def small_spaces():
    """Spaces with so few groupings that all choices of them can be looked at."""
    return [Space(dimensions) for dimensions in SMALL]


def choices(some):
    """All choices of some things, in order."""
    return [chosen for many in range(len(some) + 1) for chosen in itertools.combinations(some, many)]


def of_groupings(space, groupings, seed=0):
    """A question with a part of each grouping."""
    draw = random.Random(seed)
    found = [0] * space.many
    for grouping in groupings:
        for group in groups(space, grouping):
            times = draw.randint(-5, 5)
            found = [one + times * two for one, two in zip(found, indicator(space, group))]
    return tuple(found)


def of_first_groups(space, groupings):
    """The sum of the indicators of the first groups, which have a component for their grouping."""
    rows = [indicator(space, groups(space, grouping)[0]) for grouping in groupings]
    return tuple(sum(column) for column in zip(*rows))


def some_questions(space):
    """Questions with few and with many components."""
    every = all_groupings(space)
    found = [(0,) * space.many, (1,) * space.many, unit(space, 0), integers(space), drawn_question(space, 1)]
    for at, grouping in enumerate(every):
        found.append(of_groupings(space, [grouping], at))
        found.append(of_groupings(space, [grouping, every[(3 * at + 1) % len(every)]], at))
    found += [indicator(space, group) for group in all_groups(space)[::3]]
    return found


def components(space, question):
    """The groupings for which a question has a component that is not zero everywhere."""
    zero = ((0, 1),) * space.many
    vector = as_fractions(question)
    return [grouping for grouping in all_groupings(space) if component(space, grouping, vector) != zero]


class FamilyTest(unittest.TestCase):
    def test_all_groups_in_order_each_once(self):
        for space in sample_spaces():
            every = all_groupings(space)
            order = all_groups(space)
            draw = random.Random(1)
            for many in range(len(every) + 1):
                some = draw.sample(every, many)
                expected = sorted({group for grouping in some for group in groups(space, grouping)}, key=order.index)
                self.assertEqual(needs.family_of(space, tuple(some)), tuple(expected))
                self.assertEqual(needs.family_of(space, tuple(some + some[:2])), tuple(expected))

    def test_by_hand(self):
        space = example()
        self.assertEqual(needs.family_of(space, ()), ())
        self.assertEqual(needs.family_of(space, ((1, 0), (0, 1), (1, 0))),
                         (("", "june"), ("", "may"), ("north", ""), ("south", "")))


class RoomTest(unittest.TestCase):
    def test_each_as_often_as_it_stands_there(self):
        space = example()
        for groupings, many in (((), 0), (((0, 0),), 1), (((2, 1),), 6), (((2, 0), (0, 1)), 5),
                                (((2, 0), (2, 0)), 6), (((1, 1), (0, 0), (1, 1), (1, 1)), 13)):
            self.assertEqual(needs.room_of(space, groupings), many)

    def test_sum_of_rooms(self):
        draw = random.Random(2)
        for space in sample_spaces():
            for many in range(8):
                some = tuple(draw.choice(all_groupings(space)) for _ in range(many))
                self.assertEqual(needs.room_of(space, some), sum(len(groups(space, one)) for one in some))


class MissingTest(unittest.TestCase):
    def check(self, space, groupings, question):
        found = needs.missing(space, groupings, question)
        enough = [grouping for grouping in all_groupings(space)
                  if is_determined(space, needs.family_of(space, groupings + (grouping,)), question)]
        self.assertIn(found, enough)
        for other in enough:
            self.assertTrue(coarser(found, other))
        if is_determined(space, needs.family_of(space, groupings), question):
            self.assertEqual(found, (0,) * len(space.dimensions))

    def test_against_all_groupings(self):
        draw = random.Random(3)
        for space in small_spaces():
            every = all_groupings(space)
            for question in some_questions(space):
                for many in (0, 1, 2, 3):
                    self.check(space, tuple(draw.choice(every) for _ in range(many)), question)

    def test_large_spaces(self):
        draw = random.Random(4)
        for space in sample_spaces()[-2:]:
            every = all_groupings(space)
            for at in range(4):
                question = of_groupings(space, draw.sample(every, 2), at)
                self.check(space, tuple(draw.choice(every) for _ in range(at)), question)

    def test_by_hand(self):
        space = example()
        oslo = (0, 0, 1, 1, 0, 0)
        for groupings, question, told in (
                ((), oslo, (2, 0)), (((1, 0),), oslo, (2, 0)), (((2, 0),), oslo, (0, 0)), (((2, 1),), oslo, (0, 0)),
                (((0, 1), (1, 0)), (1,) * 6, (0, 0)), ((), (1,) * 6, (0, 0)), ((), (0,) * 6, (0, 0)),
                (((0, 1),), (0, 1, 0, 1, 0, 1), (0, 0)), (((1, 0),), (0, 1, 0, 1, 0, 1), (0, 1)),
                (((2, 0),), unit(space, 2), (2, 1)), (((2, 0),), unit(space, 4), (1, 1)),
                ((), (1, 3, 1, 3, 2, 4), (1, 1)), (((0, 1),), (1, 3, 1, 3, 2, 4), (1, 0))):
            self.assertEqual(needs.missing(space, groupings, question), told)

    def test_order_and_repetitions_do_not_matter(self):
        draw = random.Random(5)
        for space in small_spaces():
            every = all_groupings(space)
            for question in some_questions(space)[::2]:
                some = draw.sample(every, 3)
                told = needs.missing(space, tuple(some), question)
                self.assertEqual(needs.missing(space, tuple(some[::-1] + some[:1]), question), told)

    def test_coarser_groupings_beside_finer_ones_do_not_matter(self):
        for space in small_spaces():
            for finer in all_groupings(space):
                below = tuple(other for other in all_groupings(space) if coarser(other, finer))
                for question in some_questions(space)[::3]:
                    self.assertEqual(needs.missing(space, below, question), needs.missing(space, (finer,), question))


class RequiredTest(unittest.TestCase):
    def check(self, space, some):
        found = needs.required(space, some)
        present = {grouping for question in some for grouping in components(space, question)}
        expected = sorted(one for one in present
                          if not any(coarser(one, other) and one != other for other in present))
        self.assertEqual(found, tuple(expected))
        return found

    def test_as_the_components_say(self):
        for space in [*small_spaces(), *sample_spaces()]:
            questions = some_questions(space)
            for question in questions[:20]:
                self.check(space, (question,))
            for at in range(0, 12, 3):
                self.check(space, tuple(questions[at:at + 4]))

    def test_stored_groupings_determine_all_if_each_is_covered(self):
        draw = random.Random(6)
        for space in small_spaces():
            questions = some_questions(space)
            for many in (1, 2, 3):
                some = tuple(draw.choice(questions) for _ in range(many))
                found = needs.required(space, some)
                for _ in range(12):
                    stored = draw.sample(all_groupings(space), draw.randint(0, 3))
                    family = needs.family_of(space, tuple(stored))
                    covered = all(any(coarser(one, other) for other in stored) for one in found)
                    self.assertEqual(all(is_determined(space, family, question) for question in some), covered)

    def test_by_hand(self):
        space = example()
        oslo, may = (0, 0, 1, 1, 0, 0), (0, 1, 0, 1, 0, 1)
        both = tuple(one + two for one, two in zip(oslo, may))
        for some, told in (((), ()), (((0,) * 6,), ()), (((1,) * 6,), ((0, 0),)), ((oslo,), ((2, 0),)),
                           ((may,), ((0, 1),)), ((oslo, may), ((0, 1), (2, 0))), ((may, oslo), ((0, 1), (2, 0))),
                           ((both,), ((0, 1), (2, 0))), (((1, 1, 1, 1, 0, 0), oslo), ((2, 0),)),
                           ((oslo, (1, 1, 1, 1, 0, 0), (0,) * 6), ((2, 0),)), ((unit(space, 0), may), ((2, 1),)),
                           ((unit(space, 4), oslo), ((1, 1), (2, 0)))):
            self.assertEqual(needs.required(space, some), told)

    def test_levels_without_new_members_are_not_required(self):
        space = Space((CHAIN, TOWN))
        self.assertEqual(needs.required(space, (unit(space, 0),)), ((1, 2),))
        self.assertEqual(needs.required(space, (unit(space, 0), (0, 0, 0, 1, 1, 1))), ((1, 2),))

    def test_eight_questions_and_nine(self):
        space = example()
        row = tuple(unit(space, cell) for cell in range(6)) + ((1,) * 6, (0,) * 6)
        self.assertEqual(needs.required(space, row), ((2, 1),))
        for many in (9, 12):
            with self.assertRaises(TooLarge) as caught:
                needs.required(space, (row * 2)[:many])
            self.assertEqual(caught.exception.count, many)
        with self.assertRaises(TooLarge) as caught:
            needs.required(space, ((0,) * 6,) * 9)
        self.assertEqual(caught.exception.count, 9)


class RedundantTest(unittest.TestCase):
    def check(self, space, groupings):
        different = sorted(set(groupings))
        expected = []
        for grouping in different:
            others = needs.family_of(space, tuple(other for other in different if other != grouping))
            rows = indicators(space, others)
            if rank_of(rows + indicators(space, groups(space, grouping))) == rank_of(rows):
                expected.append(grouping)
        self.assertEqual(needs.redundant(space, groupings), tuple(expected))

    def test_against_elimination(self):
        draw = random.Random(7)
        for space in [*small_spaces(), *sample_spaces()]:
            every = all_groupings(space)
            for many in (0, 1, 2, 2, 3, 4, 5):
                self.check(space, tuple(draw.choice(every) for _ in range(many)))

    def test_all_choices_of_small_spaces(self):
        for space in small_spaces():
            if len(all_groupings(space)) <= 6:
                for chosen in choices(all_groupings(space)):
                    self.check(space, chosen)

    def test_by_hand(self):
        space = example()
        for groupings, told in (((), ()), (((0, 0),), ()), (((0, 0), (0, 0)), ()), (((2, 1), (2, 1)), ()),
                                (((1, 0), (0, 0)), ((0, 0),)), (((1, 0), (0, 0), (0, 0)), ((0, 0),)),
                                (((2, 0), (1, 1), (0, 1), (1, 0)), ((0, 1), (1, 0))),
                                (((1, 0), (0, 1)), ()), (((2, 1), (1, 0), (0, 1), (0, 0)), ((0, 0), (0, 1), (1, 0)))):
            self.assertEqual(needs.redundant(space, groupings), told)

    def test_groupings_with_the_same_cells(self):
        # Each is looked at by itself: every one of the three is redundant beside the others.
        space = Space((CHAIN, TOWN))
        self.assertEqual(needs.redundant(space, ((3, 0), (1, 0), (2, 0))), ((1, 0), (2, 0), (3, 0)))
        self.assertEqual(needs.redundant(space, ((3, 0), (1, 0), (0, 0))), ((0, 0), (1, 0), (3, 0)))
        self.assertEqual(needs.redundant(space, ((3, 0), (3, 0), (0, 0))), ((0, 0),))
        self.assertEqual(needs.redundant(space, ((3, 1), (1, 2), (1, 1))), ((1, 1), (3, 1)))


class CheapestTest(unittest.TestCase):
    def check(self, space, some):
        rows = []
        wanted = needs.required(space, some)
        for chosen in choices(all_groupings(space)):
            if all(any(coarser(one, other) for other in chosen) for one in wanted):
                rows.append((sum(len(groups(space, one)) for one in chosen), len(chosen), chosen))
        found = needs.cheapest(space, some)
        self.assertEqual(found, min(rows)[2])
        family = needs.family_of(space, found)
        self.assertTrue(all(is_determined(space, family, question) for question in some))

    def test_against_all_choices(self):
        draw = random.Random(8)
        for space in small_spaces():
            questions = some_questions(space)
            for many in (0, 1, 1, 1, 2, 2, 2, 3, 3, 4, 8):
                self.check(space, tuple(draw.choice(questions) for _ in range(many)))

    def test_by_hand(self):
        space = example()
        oslo, may = (0, 0, 1, 1, 0, 0), (0, 1, 0, 1, 0, 1)
        for some, told in (((), ()), (((0,) * 6,), ()), (((1,) * 6,), ((0, 0),)), ((oslo,), ((2, 0),)),
                           # 3 towns and 2 months apart are less than the 6 of both.
                           ((oslo, may), ((0, 1), (2, 0))), ((unit(space, 0), may), ((2, 1),)),
                           # 2 regions and 2 months apart are as much as both together: one grouping is fewer.
                           (((1, 1, 1, 1, 0, 0), may), ((1, 1),)),
                           # 4 and 3 apart are more than the 6 of both.
                           ((unit(space, 4), oslo), ((2, 1),))):
            self.assertEqual(needs.cheapest(space, some), told)

    def test_the_first_tuple_of_several(self):
        # Any two of the three may be joined: the room is 4 and 2 each time.
        space = Space((("a", ("x", "y")), ("b", ("x", "y")), ("c", ("x", "y"))))
        some = tuple(of_groupings(space, [grouping], 1) for grouping in ((1, 0, 0), (0, 1, 0), (0, 0, 1)))
        self.assertEqual(needs.required(space, some), ((0, 0, 1), (0, 1, 0), (1, 0, 0)))
        self.assertEqual(needs.cheapest(space, some), ((0, 0, 1), (1, 1, 0)))

    def test_told_in_ascending_order(self):
        # The first and the last required grouping are joined, and their join stands behind the other one.
        space = Space((("a", ("x", "y")), ("b", ("x", "y", "z")), ("c", ("x", "y"))))
        some = tuple(of_first_groups(space, [grouping]) for grouping in ((1, 0, 0), (0, 1, 0), (0, 0, 1)))
        self.assertEqual(needs.cheapest(space, some), ((0, 1, 0), (1, 0, 1)))

    def test_six_required_and_seven(self):
        space = Space((DEEP, DEEPER, FLAT))
        for many in range(1, 11):
            question = of_first_groups(space, APART[:many])
            self.assertEqual(needs.required(space, (question,)), tuple(sorted(APART[:many])))
            if many <= 6:
                family = needs.family_of(space, needs.cheapest(space, (question,)))
                self.assertIs(is_determined(space, family, question), True)
            else:
                with self.assertRaises(TooLarge) as caught:
                    needs.cheapest(space, (question,))
                self.assertEqual(caught.exception.count, many)

    def test_required_groupings_of_several_questions_count_together(self):
        space = Space((DEEP, DEEPER, FLAT))
        some = tuple(of_first_groups(space, APART[at:at + 2]) for at in (0, 2, 4, 6))
        self.assertEqual(needs.required(space, some[:3]), tuple(sorted(APART[:6])))
        self.assertGreater(len(needs.cheapest(space, some[:3])), 0)
        with self.assertRaises(TooLarge) as caught:
            needs.cheapest(space, some)
        self.assertEqual(caught.exception.count, 8)

    def test_eight_questions_and_nine(self):
        space = example()
        row = tuple(unit(space, cell) for cell in range(6)) + ((1,) * 6, (0,) * 6)
        self.assertEqual(needs.cheapest(space, row), ((2, 1),))
        with self.assertRaises(TooLarge) as caught:
            needs.cheapest(space, row + row[:1])
        self.assertEqual(caught.exception.count, 9)

    def test_nine_questions_ahead_of_ten_required_groupings(self):
        space = Space((DEEP, DEEPER, FLAT))
        question = of_first_groups(space, APART)
        for many, count in ((8, 10), (9, 9), (11, 11)):
            with self.assertRaises(TooLarge) as caught:
                needs.cheapest(space, (question,) * many)
            self.assertEqual(caught.exception.count, count)


class FurtherTest(unittest.TestCase):
    def check(self, space, family, some):
        rows = indicators(space, family)
        expected = []
        for place, question in enumerate(some):
            if not adds_up(rows + [list(other) for other in some[:place]], question):
                expected.append(place)
        found = needs.further(space, family, some)
        self.assertEqual(found, tuple(expected))
        # As many values as the rank lacks: no smaller number is enough.
        self.assertEqual(len(found), rank_of(rows + [list(one) for one in some]) - rank(space, family))

    def test_against_elimination(self):
        draw = random.Random(9)
        for space in sample_spaces():
            for family in [*families(space), *drawn_families(space, 3, 9, 4)]:
                row = [mixed(space, family, 1), drawn_question(space, 3), unit(space, space.many - 1), integers(space),
                       (0,) * space.many, drawn_question(space, 4, 1)]
                row.append(tuple(2 * one - 3 * two for one, two in zip(row[1], row[3])))
                row.append(tuple(one + two for one, two in zip(row[0], row[2])))
                draw.shuffle(row)
                self.check(space, family, tuple(row))

    def test_by_hand(self):
        space = example()
        regions = groups(space, (1, 0))
        oslo, bergen, may = (0, 0, 1, 1, 0, 0), (1, 1, 0, 0, 0, 0), (0, 1, 0, 1, 0, 1)
        zero, both = (0,) * 6, (1,) * 6
        for family, some, told in (
                (regions, (), ()), (regions, (zero,), ()), ((), (zero, zero), ()), ((), (both, both), (0,)),
                (regions, (both, oslo), (1,)), (regions, (oslo, bergen), (0,)), (regions, (bergen, oslo), (0,)),
                ((), (oslo, bergen), (0, 1)), ((), (oslo, oslo), (0,)), (regions, (may, oslo, may, bergen), (0, 1)),
                ((), (zero, oslo, bergen, (1, 1, 1, 1, 0, 0), may, (1, 2, 1, 2, 0, 1)), (1, 2, 4))):
            self.assertEqual(needs.further(space, family, some), told)

    def test_eight_questions_and_nine(self):
        space = example()
        row = tuple(unit(space, cell) for cell in range(6)) + ((1,) * 6, (0,) * 6)
        self.assertEqual(needs.further(space, (), row), (0, 1, 2, 3, 4, 5))
        for some in (row + row[:1], ((0,) * 6,) * 9):
            with self.assertRaises(TooLarge) as caught:
                needs.further(space, (), some)
            self.assertEqual(caught.exception.count, 9)
        with self.assertRaises(TooLarge) as caught:
            needs.further(space, groups(space, (2, 1)), row * 2)
        self.assertEqual(caught.exception.count, 16)


if __name__ == "__main__":
    unittest.main()
