"""Cubes, their deeds, watched questions, marks, copies and walks: points 55 to 66 and 72."""

import random
import unittest

from cubesums.cube import Cube
from cubesums.errors import (AlreadyStored, AlreadyWatched, BadDimensions, NoSuchCell, NoSuchGroup, NoSuchMark,
                             NotDetermined, NotStored, NotWatched, ShapesDiffer, TooLarge)
from cubesums.facts import sums, totals, value
from cubesums.groupings import all_groupings, groups, in_order, indicator
from cubesums.questions import group_expression, question_of
from cubesums.space import Space
from cubes import ALL, FAULTS, JUNE, LIMIT, MAY, NO_GROUPS, NORTH, REGIONS, SOUTH, WIDE, contents, started
from exact import adds_up, indicators
from samples import CHAIN, EXAMPLE, MONTH, TOWN, all_groups, example

def laden():
    """A cube with watched questions and marks."""
    cube = started()
    cube.watch("sum")
    cube.mark()
    cube.watch("sum where town in north/oslo")
    cube.insert(((0, 5),))
    cube.mark()
    cube.drop((SOUTH,))
    return cube


class CubeCase(unittest.TestCase):
    def refused(self, cube, error, deed, **fields):
        """Check that a deed is refused and changes nothing."""
        before = contents(cube)
        with self.assertRaises(error) as caught:
            deed()
        self.assertIs(type(caught.exception), error)
        for name, told in fields.items():
            self.assertEqual(getattr(caught.exception, name), told)
        self.assertEqual(contents(cube), before)


class NewCubeTest(CubeCase):
    def test_groups_in_any_order(self):
        every = all_groups(example())
        for seed in range(20):
            draw = random.Random(seed)
            some = tuple(draw.sample(every, draw.randint(0, len(every))))
            cube = Cube(EXAMPLE, some)
            self.assertEqual(cube.stored(), tuple((group, 0) for group in in_order(example(), some)))
            self.assertEqual(cube.dimensions(), EXAMPLE)
            self.assertEqual((cube.watched(), cube.marks()), ((), 0))

    def test_no_groups(self):
        cube = Cube(EXAMPLE, ())
        self.assertEqual((cube.stored(), len(cube), list(cube)), ((), 0, []))

    def test_no_such_group_comes_first(self):
        many = groups(Space(WIDE), (1, 1))
        for group in NO_GROUPS:
            for some in ((group,), REGIONS + (group,), (group, NORTH, NORTH), (NORTH, NORTH, group), (group, group)):
                with self.assertRaises(NoSuchGroup):
                    Cube(EXAMPLE, some)
        for some in (many + (("x", ""),), (("x", ""),) + many + many):
            with self.assertRaises(NoSuchGroup):
                Cube(WIDE, some)

    def test_groups_that_stand_twice_come_next(self):
        many = groups(Space(WIDE), (1, 1))
        for dimensions, some in ((EXAMPLE, (NORTH, NORTH)), (EXAMPLE, (NORTH, SOUTH, NORTH)),
                                 (EXAMPLE, (ALL, ALL, NORTH)), (WIDE, many[:40] + many[39:40]), (WIDE, many + many)):
            with self.assertRaises(AlreadyStored):
                Cube(dimensions, some)

    def test_forty_groups_and_more(self):
        every = all_groups(Space(WIDE))
        for many in (39, 40):
            self.assertEqual(len(Cube(WIDE, tuple(every[:many]))), many)
        for many in (41, 42, len(every)):
            with self.assertRaises(TooLarge) as caught:
                Cube(WIDE, tuple(every[-many:]))
            self.assertEqual(caught.exception.count, many)

    def test_dimensions_are_refused_ahead_of_groups(self):
        for dimensions in ((), (TOWN, TOWN), (("sum", ("a", "b")),), (("a", ("b",)),), (MONTH, ("b", ("d", "c"))),
                           (("a", tuple("bcdefgh")), ("b", tuple("bcdefgh")))):
            for some in ((), (NORTH, NORTH), (("x",),), NO_GROUPS, ((),) * 41):
                with self.assertRaises(BadDimensions):
                    Cube(dimensions, some)


class InsertTest(CubeCase):
    def test_example_of_the_document(self):
        cube = Cube(EXAMPLE, (SOUTH, NORTH))
        self.assertEqual(cube.insert(((3, 20), (0, 10), (5, 15))), ())
        self.assertEqual(cube.stored(), ((NORTH, 30), (SOUTH, 15)))
        self.assertEqual((cube.value("sum where town in north"), cube.value("sum")), (30, 45))
        with self.assertRaises(NotDetermined):
            cube.value("sum where town in north/oslo")
        self.assertEqual(cube.ask("sum where town in north/oslo"), ("open", ((0, -1), (1, -1), (2, 1), (3, 1)), 2))

    def test_sums_grow(self):
        every = tuple(all_groups(example()))
        cube = Cube(EXAMPLE, every)
        amounts = (0,) * 6
        for facts in ((), ((0, 1),), ((0, -5), (0, 7), (5, 0)), ((3, 10 ** 17), (2, -10 ** 17)),
                      ((5, -3), (4, -4), (1, 9))):
            self.assertEqual(cube.insert(facts), ())
            amounts = tuple(one + two for one, two in zip(amounts, totals(example(), facts)))
            self.assertEqual(cube.stored(), tuple(zip(every, sums(example(), every, amounts))))

    def test_cells_that_there_are_not(self):
        cube = laden()
        for cell in (-1, 6, 7, -6, 10 ** 9):
            self.refused(cube, NoSuchCell, lambda: cube.insert(((0, 1), (cell, 1))))
            self.refused(cube, NoSuchCell, lambda: cube.insert(((0, LIMIT + 1), (cell, 0))))
            self.refused(cube, NoSuchCell, lambda: cube.insert(((cell, -5 * LIMIT),)))

    def test_largest_sums(self):
        for sign in (1, -1):
            cube = Cube(EXAMPLE, REGIONS)
            cube.insert(((0, sign * LIMIT), (4, -sign * LIMIT)))
            self.assertEqual(cube.stored(), ((NORTH, sign * LIMIT), (SOUTH, -sign * LIMIT)))
            self.refused(cube, TooLarge, lambda: cube.insert(((0, sign),)), count=LIMIT + 1)
            self.refused(cube, TooLarge, lambda: cube.insert(((4, -sign * 7),)), count=LIMIT + 7)
            # The first sum in the order of the groups is told, not the greatest one.
            self.refused(cube, TooLarge, lambda: cube.insert(((5, -sign * 9), (1, sign * 2))), count=LIMIT + 2)
            cube.insert(((3, -sign),))
            self.refused(cube, TooLarge, lambda: cube.insert(((2, sign), (4, -sign * 3))), count=LIMIT + 3)
            cube.insert(((2, sign),))
            self.assertEqual(cube.stored()[0], (NORTH, sign * LIMIT))

    def test_amounts_above_the_limit_whose_sums_are_not(self):
        cube = Cube(EXAMPLE, REGIONS)
        self.assertEqual(cube.insert(((0, 5 * LIMIT), (1, -5 * LIMIT), (4, 3))), ())
        self.assertEqual(cube.stored(), ((NORTH, 0), (SOUTH, 3)))
        cube = Cube(EXAMPLE, (SOUTH,))
        cube.insert(((0, 10 ** 30),))
        self.assertEqual(cube.stored(), ((SOUTH, 0),))


class StoreTest(CubeCase):
    def test_groups_that_follow(self):
        cube = started()
        self.assertEqual(cube.store((ALL,)), ())
        self.assertEqual(cube.stored(), ((ALL, 45), (NORTH, 30), (SOUTH, 15)))
        cube.store((("south/rome", ""),))
        self.assertEqual(cube.stored()[3], (("south/rome", ""), 15))
        cube.insert(((4, 2), (0, 1)))
        self.assertEqual(cube.stored(), ((ALL, 48), (NORTH, 31), (SOUTH, 17), (("south/rome", ""), 17)))
        self.assertEqual(cube.store(()), ())

    def test_several_at_once_in_any_order(self):
        cube = Cube(EXAMPLE, groups(example(), (2, 1)))
        cube.insert(tuple((cell, cell + 1) for cell in range(6)))
        cube.store((MAY, ("north", "may"), ALL, JUNE))
        self.assertEqual(cube.stored()[:4], ((ALL, 21), (JUNE, 9), (MAY, 12), (("north", "may"), 6)))

    def test_groups_that_do_not_follow(self):
        cube = laden()
        for some in ((("north/oslo", ""),), (ALL,), (SOUTH,), (("north", "may"),),
                     (("north", "june"), ("north", "may"))):
            self.refused(cube, NotDetermined, lambda: cube.store(some))

    def test_groups_that_follow_only_from_one_another(self):
        cube = started((NORTH,))
        # Of the regions, the months or the towns each is the total less the others.
        self.refused(cube, NotDetermined, lambda: cube.store((ALL, SOUTH)))
        self.refused(cube, NotDetermined, lambda: cube.store((("north/bergen", ""), ("north/oslo", ""))))
        cube = started((ALL, NORTH))
        self.assertEqual(cube.store((SOUTH,)), ())
        self.refused(cube, NotDetermined, lambda: cube.store((("south/rome", ""), MAY)))
        self.assertEqual(cube.stored(), ((ALL, 45), (NORTH, 30), (SOUTH, 15)))

    def test_order_of_the_refusals(self):
        cube = laden()
        for group in NO_GROUPS:
            self.refused(cube, NoSuchGroup, lambda: cube.store((NORTH, ALL, ALL, group)))
        for some in ((NORTH,), (ALL, ALL), (("north/oslo", ""), NORTH), (MAY, JUNE, MAY)):
            self.refused(cube, AlreadyStored, lambda: cube.store(some))

    def test_forty_groups_and_more(self):
        cells = groups(Space(WIDE), (1, 1))
        every = tuple(group for group in all_groups(Space(WIDE)) if group not in cells)
        cube = Cube(WIDE, cells[:38])
        cube.store(((cells[0][0], ""),))
        self.assertEqual(len(cube), 39)
        self.refused(cube, TooLarge, lambda: cube.store(every[:2]), count=41)
        self.refused(cube, TooLarge, lambda: cube.store(every[:6] + every[8:10]), count=47)
        self.refused(cube, AlreadyStored, lambda: cube.store(every[:6] + every[8:10] + every[:1]))
        self.refused(cube, AlreadyStored, lambda: cube.store(every))
        self.refused(cube, NotDetermined, lambda: cube.store(((cells[-1][0], ""),)))
        cube.store(((cells[6][0], ""),))
        self.assertEqual(len(cube), 40)
        self.refused(cube, TooLarge, lambda: cube.store(((cells[12][0], ""),)), count=41)
        self.refused(cube, AlreadyStored, lambda: cube.store(((cells[0][0], ""),)))
        self.assertEqual(cube.store(()), ())

    def test_sums_above_the_limit(self):
        for sign in (1, -1):
            cube = Cube(EXAMPLE, REGIONS)
            cube.insert(((0, sign * LIMIT), (4, sign * 5)))
            self.refused(cube, TooLarge, lambda: cube.store((("south/rome", ""), ALL)), count=LIMIT + 5)
            # That another one is not determined is told ahead of it.
            self.refused(cube, NotDetermined, lambda: cube.store((ALL, MAY)))
            cube.insert(((4, -sign * 5),))
            cube.store((ALL,))
            self.assertEqual(cube.stored()[0], (ALL, sign * LIMIT))

    def test_first_of_several_sums_above_the_limit(self):
        cube = Cube(EXAMPLE, groups(example(), (2, 1)))
        cube.insert(((0, LIMIT), (2, LIMIT), (5, -3), (4, 6)))
        self.refused(cube, TooLarge, lambda: cube.store((("north", "june"), JUNE, ALL)), count=2 * LIMIT + 3)
        self.refused(cube, TooLarge, lambda: cube.store((("north", "june"), JUNE)), count=2 * LIMIT + 6)
        self.refused(cube, TooLarge, lambda: cube.store((("north", "june"),)), count=2 * LIMIT)


class DropTest(CubeCase):
    def test_groups_are_dropped(self):
        cube = started()
        cube.store((ALL,))
        self.assertEqual(cube.drop((NORTH,)), ())
        self.assertEqual(cube.stored(), ((ALL, 45), (SOUTH, 15)))
        cube.store((NORTH,))
        self.assertEqual(cube.stored(), ((ALL, 45), (NORTH, 30), (SOUTH, 15)))
        cube.drop((SOUTH, ALL))
        self.assertEqual(cube.stored(), ((NORTH, 30),))
        self.assertEqual(cube.drop(()), ())
        cube.drop((NORTH,))
        self.assertEqual(cube.stored(), ())

    def test_a_group_that_stands_twice(self):
        cube = started()
        cube.drop((NORTH, NORTH))
        self.assertEqual(cube.stored(), ((SOUTH, 15),))

    def test_refusals_and_their_order(self):
        cube = laden()
        for group in NO_GROUPS:
            self.refused(cube, NoSuchGroup, lambda: cube.drop((group,)))
            self.refused(cube, NoSuchGroup, lambda: cube.drop((ALL, NORTH, group)))
        for some in ((ALL,), (NORTH, SOUTH), (("north/oslo", ""), NORTH), (MAY, MAY)):
            self.refused(cube, NotStored, lambda: cube.drop(some))


class MergeTest(CubeCase):
    def test_sums_of_both(self):
        cube, other = started(), started()
        other.insert(((2, 100), (4, -7)))
        before = contents(other)
        self.assertEqual(cube.merge(other), ())
        self.assertEqual(cube.stored(), ((NORTH, 160), (SOUTH, 23)))
        self.assertEqual(contents(other), before)
        other.insert(((0, 1),))
        self.assertEqual(cube.stored(), ((NORTH, 160), (SOUTH, 23)))

    def test_sums_that_the_other_one_determines(self):
        cube = started((ALL, SOUTH))
        other = started(groups(example(), (2, 1)))
        cube.merge(other)
        self.assertEqual(cube.stored(), ((ALL, 90), (SOUTH, 30)))
        cube.merge(started((NORTH, SOUTH)))
        self.assertEqual(cube.stored(), ((ALL, 135), (SOUTH, 45)))

    def test_other_groups_may_be_open(self):
        cube = started((SOUTH,))
        cube.merge(started((SOUTH, MAY)))
        self.assertEqual(cube.stored(), ((SOUTH, 30),))
        empty = Cube(EXAMPLE, ())
        self.assertEqual(empty.merge(cube), ())
        self.assertEqual(empty.stored(), ())

    def test_not_determined(self):
        cube = laden()
        for some in ((), (SOUTH,), (ALL,), (MAY, JUNE), (ALL, ("north", "may")),
                     (ALL, ("south", "may"), ("north/oslo", ""))):
            other = started(some)
            before = contents(other)
            self.refused(cube, NotDetermined, lambda: cube.merge(other))
            self.assertEqual(contents(other), before)

    def test_with_itself(self):
        cube = started()
        cube.watch("sum")
        self.assertEqual(cube.merge(cube), (("sum", 45, 90),))
        self.assertEqual(cube.stored(), ((NORTH, 60), (SOUTH, 30)))
        cube.merge(cube)
        self.assertEqual(cube.stored(), ((NORTH, 120), (SOUTH, 60)))

    def test_other_dimensions(self):
        cube = laden()
        for dimensions, some in (((MONTH, TOWN), (("", "north"), ("", "south"))), ((TOWN,), (("north",),)),
                                 ((CHAIN, MONTH), ()), ((TOWN, ("month", ("june", "may", "no"))), REGIONS),
                                 ((("city",) + TOWN[1:], MONTH), REGIONS)):
            other = Cube(dimensions, some)
            self.refused(cube, ShapesDiffer, lambda: cube.merge(other))
        self.refused(cube, ShapesDiffer, lambda: cube.merge(Cube((MONTH,), ())))

    def test_sums_above_the_limit(self):
        for sign in (1, -1):
            cube, other = Cube(EXAMPLE, REGIONS), Cube(EXAMPLE, REGIONS)
            cube.insert(((0, sign * (LIMIT - 5)), (4, sign * LIMIT)))
            other.insert(((1, sign * 6), (4, sign * 9)))
            self.refused(cube, TooLarge, lambda: cube.merge(other), count=LIMIT + 1)
            other.insert(((1, -sign),))
            self.refused(cube, TooLarge, lambda: cube.merge(other), count=LIMIT + 9)
            other.insert(((4, -sign * 10),))
            cube.merge(other)
            self.assertEqual(cube.stored(), ((NORTH, sign * LIMIT), (SOUTH, sign * (LIMIT - 1))))
            self.refused(cube, TooLarge, lambda: cube.merge(cube), count=2 * LIMIT)

    def test_not_determined_ahead_of_sums_above_the_limit(self):
        cube, other = Cube(EXAMPLE, REGIONS), Cube(EXAMPLE, (NORTH,))
        cube.insert(((0, LIMIT),))
        other.insert(((0, LIMIT),))
        self.refused(cube, NotDetermined, lambda: cube.merge(other))


class WatchTest(CubeCase):
    def test_states(self):
        cube = started()
        self.assertEqual(cube.watch("sum"), 45)
        self.assertIsNone(cube.watch("sum where town in north/oslo"))
        self.assertEqual(cube.watch("2 * sum where town in north"), 60)
        self.assertEqual(cube.watched(), (("sum", 45), ("sum where town in north/oslo", None),
                                          ("2 * sum where town in north", 60)))
        cube.insert(((0, 5),))
        self.assertEqual(cube.watched(), (("sum", 50), ("sum where town in north/oslo", None),
                                          ("2 * sum where town in north", 70)))

    def test_as_it_is_written(self):
        cube = started()
        for text in ("sum", " sum", "sum ", "(sum)", "1*sum"):
            self.assertEqual(cube.watch(text), 45)
        self.assertEqual([text for text, _ in cube.watched()], ["sum", " sum", "sum ", "(sum)", "1*sum"])
        self.assertIsNone(cube.unwatch("sum "))
        self.assertEqual([text for text, _ in cube.watched()], ["sum", " sum", "(sum)", "1*sum"])
        self.refused(cube, NotWatched, lambda: cube.unwatch("sum "))
        self.refused(cube, NotWatched, lambda: cube.unwatch("  sum"))

    def test_six_and_a_seventh(self):
        cube = started()
        texts = [f"{number} * sum" for number in range(1, 8)]
        for text in texts[:6]:
            cube.watch(text)
        self.assertEqual(len(cube.watched()), 6)
        self.refused(cube, TooLarge, lambda: cube.watch(texts[6]), count=7)
        for text in texts[:6]:
            self.refused(cube, AlreadyWatched, lambda: cube.watch(text))
        for text, error, name, told in FAULTS:
            self.refused(cube, error, lambda: cube.watch(text), **{name: told})
        cube.unwatch(texts[2])
        self.assertEqual(cube.watch(texts[6]), 315)
        self.assertEqual([text for text, _ in cube.watched()], texts[:2] + texts[3:])
        self.refused(cube, TooLarge, lambda: cube.watch(texts[2]), count=7)

    def test_faulty_expressions(self):
        cube = laden()
        for text, error, name, told in FAULTS:
            self.refused(cube, error, lambda: cube.watch(text), **{name: told})
            self.refused(cube, NotWatched, lambda: cube.unwatch(text))

    def test_already_watched(self):
        cube = laden()
        self.refused(cube, AlreadyWatched, lambda: cube.watch("sum"))
        cube.unwatch("sum")
        self.assertIsNone(cube.watch("sum"))
        self.assertEqual([text for text, _ in cube.watched()], ["sum where town in north/oslo", "sum"])


class NewsTest(CubeCase):
    def watching(self):
        cube = started()
        for text in ("sum where town in south", "sum", "sum where town in north/oslo", "sum where town in north"):
            cube.watch(text)
        return cube

    def test_insert(self):
        cube = self.watching()
        self.assertEqual(cube.insert(((0, 5),)), (("sum", 45, 50), ("sum where town in north", 30, 35)))
        self.assertEqual(cube.insert(((0, 5), (2, -5))), ())
        self.assertEqual(cube.insert(((0, 5), (4, -5))), (("sum where town in south", 15, 10),
                                                          ("sum where town in north", 35, 40)))
        self.assertEqual(cube.insert(((0, -40),)), (("sum", 50, 10), ("sum where town in north", 40, 0)))

    def test_drop_and_store(self):
        cube = self.watching()
        self.assertEqual(cube.store((ALL,)), ())
        self.assertEqual(cube.drop((NORTH,)), ())
        self.assertEqual(cube.drop((SOUTH,)), (("sum where town in south", 15, None),
                                               ("sum where town in north", 30, None)))
        self.assertEqual(cube.drop((ALL,)), (("sum", 45, None),))

    def test_merge(self):
        cube = self.watching()
        other = started()
        other.insert(((0, -30), (5, 1)))
        self.assertEqual(cube.merge(other), (("sum where town in south", 15, 31), ("sum", 45, 61)))

    def test_back(self):
        cube = self.watching()
        cube.mark()
        cube.drop((SOUTH,))
        cube.insert(((0, 5),))
        # A value comes back from None.
        self.assertEqual(cube.back(0), (("sum where town in south", None, 15), ("sum", None, 45),
                                        ("sum where town in north", 35, 30)))
        self.assertEqual(cube.back(0), ())

    def test_only_what_is_watched_before_and_behind(self):
        cube = started()
        cube.watch("sum")
        cube.watch("2 * sum")
        cube.mark()
        cube.insert(((0, 5),))
        cube.unwatch("sum")
        cube.watch("3 * sum")
        self.assertEqual(cube.back(0), (("2 * sum", 100, 90),))
        self.assertEqual(cube.watched(), (("sum", 45), ("2 * sum", 90)))

    def test_order_of_before(self):
        cube = started()
        cube.watch("sum")
        cube.watch("2 * sum")
        cube.mark()
        cube.unwatch("sum")
        cube.watch("sum")
        cube.insert(((0, 5),))
        self.assertEqual(cube.back(0), (("2 * sum", 100, 90), ("sum", 50, 45)))
        self.assertEqual(cube.insert(((0, 5),)), (("sum", 45, 50), ("2 * sum", 90, 100)))

    def test_zero_and_none_are_different_states(self):
        cube = Cube(EXAMPLE, REGIONS)
        cube.watch("sum")
        self.assertEqual(cube.insert(((0, 0),)), ())
        self.assertEqual(cube.drop((NORTH,)), (("sum", 0, None),))

    def test_all_six(self):
        cube = started()
        texts = [f"{number} * sum" for number in (6, 3, 5, 1, 4, 2)]
        for text in texts:
            cube.watch(text)
        self.assertEqual(cube.insert(((4, 1),)), tuple((text, 45 * int(text[0]), 46 * int(text[0])) for text in texts))


class MarkTest(CubeCase):
    def test_ten_and_an_eleventh(self):
        cube = started()
        for number in range(10):
            self.assertEqual(cube.marks(), number)
            self.assertEqual(cube.mark(), number)
            cube.insert(((0, 1),))
        self.refused(cube, TooLarge, lambda: cube.mark(), count=11)
        self.assertEqual(cube.marks(), 10)
        cube.back(8)
        self.assertEqual(cube.marks(), 9)
        self.assertEqual(cube.mark(), 9)
        self.refused(cube, TooLarge, lambda: cube.mark(), count=11)

    def test_back_to_the_last_between_and_the_first(self):
        cube = started()
        for number in range(5):
            cube.mark()
            cube.insert(((4, 100),))
            cube.watch(f"{number + 2} * sum")
        for number, marks in ((4, 5), (2, 3), (2, 3), (0, 1), (0, 1)):
            cube.back(number)
            self.assertEqual(cube.stored(), ((NORTH, 30), (SOUTH, 15 + 100 * number)))
            self.assertEqual([text for text, _ in cube.watched()], [f"{other + 2} * sum" for other in range(number)])
            self.assertEqual(cube.marks(), marks)
            self.assertEqual(cube.compare(number), ((), (), ()))
            for other in range(marks, 5):
                self.refused(cube, NoSuchMark, lambda: cube.back(other))

    def test_back_to_other_groups(self):
        cube = started()
        cube.mark()
        cube.store((ALL,))
        cube.drop((NORTH, SOUTH))
        cube.insert(((0, 7),))
        cube.back(0)
        self.assertEqual(cube.stored(), ((NORTH, 30), (SOUTH, 15)))
        # What is stored from now on are sums of the facts at the time of the mark.
        cube.store((ALL,))
        self.assertEqual(cube.stored()[0], (ALL, 45))

    def test_no_such_mark(self):
        cube = laden()
        for number in (-1, -2, 2, 3, 10, 10 ** 20, -10 ** 20):
            for deed in (lambda: cube.back(number), lambda: cube.compare(number), lambda: cube.since(number, "sum")):
                self.refused(cube, NoSuchMark, deed)
        cube = started()
        for number in (0, -1):
            for deed in (lambda: cube.back(number), lambda: cube.compare(number), lambda: cube.since(number, "sum")):
                self.refused(cube, NoSuchMark, deed)


class CompareTest(CubeCase):
    def test_groups_and_sums(self):
        cube = started(groups(example(), (1, 1)))
        cube.mark()
        self.assertEqual(cube.compare(0), ((), (), ()))
        cube.insert(((0, 3), (5, -15)))
        self.assertEqual(cube.compare(0), ((), (), ((("north", "june"), 10, 13), (("south", "may"), 15, 0))))
        cube.mark()
        cube.store((MAY, ALL, NORTH))
        self.assertEqual(cube.compare(0)[:2], ((), (ALL, MAY, NORTH)))
        cube.drop((("south", "may"), ("north", "may")))
        self.assertEqual(cube.compare(0), ((("north", "may"), ("south", "may")), (ALL, MAY, NORTH),
                                           ((("north", "june"), 10, 13),)))
        self.assertEqual(cube.compare(1), ((("north", "may"), ("south", "may")), (ALL, MAY, NORTH), ()))
        cube.mark()
        cube.insert(((4, 1), (0, -3)))
        self.assertEqual(cube.compare(2), ((), (), ((ALL, 33, 31), (NORTH, 33, 30), (("north", "june"), 13, 10),
                                                    (("south", "june"), 0, 1))))
        self.assertEqual(cube.compare(0), ((("north", "may"), ("south", "may")), (ALL, MAY, NORTH),
                                           ((("south", "june"), 0, 1),)))

    def test_group_dropped_and_stored_again(self):
        cube = started((ALL, NORTH, SOUTH))
        cube.mark()
        cube.drop((NORTH,))
        cube.insert(((0, 1),))
        cube.store((NORTH,))
        self.assertEqual(cube.compare(0), ((), (), ((ALL, 45, 46), (NORTH, 30, 31))))


class SinceTest(CubeCase):
    def test_growth(self):
        cube = started()
        cube.mark()
        self.assertEqual(cube.since(0, "sum"), 0)
        cube.insert(((0, 5), (4, -20)))
        cube.mark()
        cube.insert(((1, 1),))
        for number, text, told in ((0, "sum", -14), (0, "sum where town in north", 6), (1, "sum", 1),
                                   (0, "3*sum-sum", -28), (1, "sum where town in south", 0),
                                   (0, "-sum where town in south", 20)):
            self.assertEqual(cube.since(number, text), told)

    def test_other_groups_may_be_stored(self):
        cube = started()
        cube.mark()
        cube.store((ALL,))
        cube.drop((NORTH,))
        cube.insert(((0, 9),))
        self.assertEqual(cube.since(0, "sum where town in north"), 9)

    def test_not_determined_then_or_now(self):
        cube = started((ALL, NORTH))
        cube.mark()
        cube.drop((ALL,))
        self.refused(cube, NotDetermined, lambda: cube.since(0, "sum"))
        self.refused(cube, NotDetermined, lambda: cube.since(0, "sum where town in north/oslo"))
        self.assertEqual(cube.since(0, "sum where town in north"), 0)
        cube.mark()
        self.refused(cube, NotDetermined, lambda: cube.since(1, "sum"))
        cube.drop((NORTH,))
        self.refused(cube, NotDetermined, lambda: cube.since(1, "sum where town in north"))
        cube.back(0)
        self.assertEqual(cube.since(0, "sum"), 0)

    def test_order_of_the_refusals(self):
        cube = laden()
        for text, error, name, told in FAULTS:
            for number in (0, 1, 2, -1):
                self.refused(cube, error, lambda: cube.since(number, text), **{name: told})
        for number in (-1, 2, 5):
            self.refused(cube, NoSuchMark, lambda: cube.since(number, "sum where town in north/oslo"))


class CopyTest(CubeCase):
    def test_same_contents(self):
        cube = laden()
        copied = cube.copy_of()
        self.assertIsNot(copied, cube)
        self.assertIs(type(copied), Cube)
        self.assertEqual(contents(copied), contents(cube))
        for number in range(cube.marks()):
            self.assertEqual(copied.compare(number), cube.compare(number))

    def test_later_deeds_change_one_alone(self):
        other = started()
        deeds = (lambda cube: cube.insert(((0, 1),)), lambda cube: cube.drop((NORTH,)), lambda cube: cube.back(0),
                 lambda cube: cube.merge(other), lambda cube: cube.watch("7 * sum"), lambda cube: cube.unwatch("sum"),
                 lambda cube: cube.mark(), lambda cube: cube.store((("", ""),)), lambda cube: cube.back(1))
        for deed in deeds:
            cube = laden()
            cube.back(1)
            copied = cube.copy_of()
            before = contents(cube)
            deed(copied)
            self.assertEqual(contents(cube), before)
            copied = cube.copy_of()
            deed(cube)
            self.assertEqual(contents(copied), before)

    def test_copy_of_a_copy(self):
        cube = started()
        copied = cube.copy_of().copy_of()
        copied.merge(cube)
        self.assertEqual((cube.value("sum"), copied.value("sum")), (45, 90))


class WalkTest(CubeCase):
    def test_groups_in_order(self):
        cube = Cube(EXAMPLE, (MAY, NORTH, ALL, ("north", "may")))
        self.assertEqual(list(cube), [ALL, MAY, NORTH, ("north", "may")])
        self.assertEqual([group for group in cube], [group for group, _ in cube.stored()])
        self.assertEqual(len(cube), 4)

    def test_walks_while_groups_are_stored_and_dropped(self):
        cube = started((ALL, NORTH, SOUTH))
        seen = []
        for group in cube:
            seen.append(group)
            cube.drop((group,))
            if group == ALL:
                cube.store((ALL, ("south/rome", "")))
        self.assertEqual(seen, [ALL, NORTH, SOUTH])
        self.assertEqual(list(cube), [ALL, ("south/rome", "")])
        walk = iter(cube)
        cube.drop((ALL,))
        self.assertEqual(list(walk), [ALL, ("south/rome", "")])

    def test_two_walks_at_once(self):
        cube = started()
        pairs = [(one, two) for one in cube for two in cube]
        self.assertEqual(pairs, [(one, two) for one in REGIONS for two in REGIONS])

    def test_length_and_groups_in_it(self):
        cube = started()
        self.assertEqual((len(cube), NORTH in cube, SOUTH in cube, ALL in cube), (2, True, True, False))
        for group in (*NO_GROUPS, ("north/oslo", ""), MAY):
            self.assertIs(group in cube, False)
        cube.store((ALL,))
        self.assertEqual((len(cube), ALL in cube), (3, True))
        cube.drop((NORTH, SOUTH))
        self.assertEqual((len(cube), NORTH in cube), (1, False))


class Model:
    """A cube that keeps its facts, as amounts, so that all that points 56 to 66 say can be worked out from them."""

    def __init__(self, space, family):
        self.space, self.family, self.amounts, self.watched, self.marks = space, family, (0,) * space.many, (), []

    def state(self, text):
        question = question_of(self.space, text)
        return value(question, self.amounts) if adds_up(indicators(self.space, self.family), question) else None

    def states(self):
        return tuple((text, self.state(text)) for text in self.watched)

    def stored(self):
        return tuple(zip(self.family, sums(self.space, self.family, self.amounts)))

    def news(self, before):
        now = dict(self.states())
        return tuple((text, state, now[text]) for text, state in before if text in now and now[text] != state)


class ForeverTest(unittest.TestCase):
    """Point 56: stored sums are sums of the facts, whatever is stored, dropped, merged and returned to."""

    def deed(self, draw, cube, model):
        """Do one drawn deed with both; return the news of both."""
        before = model.states()
        every = all_groups(model.space)
        kind = draw.choice(("insert", "insert", "store", "store", "drop", "drop", "merge", "back", "mark",
                            "watch", "watch", "watch", "unwatch"))
        told = ()
        if kind == "insert":
            facts = tuple((draw.randrange(model.space.many), draw.randint(-9, 9)) for _ in range(draw.randint(0, 3)))
            told = cube.insert(facts)
            model.amounts = tuple(one + two for one, two in zip(model.amounts, totals(model.space, facts)))
        elif kind == "store":
            rows = indicators(model.space, model.family)
            follow = [group for group in every if group not in model.family
                      and adds_up(rows, indicator(model.space, group))]
            some = tuple(draw.sample(follow, min(len(follow), draw.randint(1, 3))))
            told = cube.store(some)
            model.family = in_order(model.space, model.family + some)
        elif kind == "drop":
            some = tuple(draw.sample(model.family, min(len(model.family) // 2, draw.randint(0, 2))))
            told = cube.drop(some)
            model.family = tuple(group for group in model.family if group not in some)
        elif kind == "merge":
            told = cube.merge(cube)
            model.amounts = tuple(2 * amount for amount in model.amounts)
        elif kind == "mark" and len(model.marks) < 10:
            self.assertEqual(cube.mark(), len(model.marks))
            model.marks.append((model.amounts, model.family, model.watched))
        elif kind == "back" and model.marks:
            number = draw.randrange(len(model.marks))
            told = cube.back(number)
            model.marks = model.marks[:number + 1]
            model.amounts, model.family, model.watched = model.marks[-1]
        elif kind == "watch" and len(model.watched) < 6:
            text = f"{draw.randint(1, 3)} * {group_expression(model.space, draw.choice(every))}"
            if text not in model.watched:
                model.watched += (text,)
                self.assertEqual(cube.watch(text), model.state(text))
        elif kind == "unwatch" and model.watched:
            text = draw.choice(model.watched)
            cube.unwatch(text)
            model.watched = tuple(other for other in model.watched if other != text)
        return told, model.news(before)

    def test_drawn_deeds(self):
        news = set()
        for seed, dimensions in enumerate((EXAMPLE, (MONTH, TOWN), (CHAIN, MONTH), EXAMPLE)):
            draw = random.Random(seed)
            space = Space(dimensions)
            family = groups(space, all_groupings(space)[-1]) if seed < 3 else in_order(space, REGIONS + (JUNE, ALL))
            cube, model = Cube(dimensions, family[::-1]), Model(space, family)
            for _ in range(120):
                told, expected = self.deed(draw, cube, model)
                self.assertEqual(told, expected)
                self.assertEqual(cube.stored(), model.stored())
                self.assertEqual(cube.watched(), model.states())
                self.assertEqual(cube.marks(), len(model.marks))
                news.update((type(before), type(now)) for _, before, now in told)
        self.assertEqual(news, {(int, int), (int, type(None)), (type(None), int)})


if __name__ == "__main__":
    unittest.main()
