"""What cubes answer: derivations, whole groupings, examples, bounds, forced cells and needs: points 67 to 71."""

import random
import unittest
from fractions import Fraction

from cubesums import bounds, needs, secrets
from cubesums.cube import Cube
from cubesums.determinacy import answer, is_determined
from cubesums.errors import BadGrouping, FaultyText, NoSuchName, NotDetermined, SumsDiffer, TooLarge, TwiceAsked
from cubesums.facts import as_facts, sums, totals, value
from cubesums.groupings import all_groupings, groups, in_order, indicator
from cubesums.questions import group_expression, question_of
from cubesums.space import Space
from cubes import ALL, FAULTS, JUNE, MAY, NORTH, REGIONS, SOUTH, WIDE, contents, started
from exact import drawn_amounts, drawn_families
from samples import CHAIN, EXAMPLE, MONTH, all_groups, example, sample_spaces

OSLO = "sum where town in north/oslo"


def cubes():
    """Cubes with drawn groups and facts, with the amounts of their facts."""
    for space in sample_spaces():
        for at, family in enumerate(drawn_families(space, 3, 30, 6)):
            amounts = drawn_amounts(space, at)
            cube = Cube(space.dimensions, family[::-1])
            cube.insert(as_facts(amounts))
            yield space, cube, amounts


def some_texts(space):
    """Expressions of groups, sums and multiples of them."""
    every = [group_expression(space, group) for group in all_groups(space)]
    return every[::4] + [f"-2 * {every[0]} + {every[-1]} - 3 * ({every[1]} - {every[2]})", "0 * sum", "sum"]


class AskTest(unittest.TestCase):
    def test_answers(self):
        kinds = set()
        for space, cube, amounts in cubes():
            before = contents(cube)
            for text in some_texts(space):
                question = question_of(space, text)
                found = cube.ask(text)
                kinds.add(found[0])
                family = tuple(cube)
                told = answer(space, family, question)
                self.assertEqual((type(found), found[0]), (tuple, told[0]))
                if found[0] == "determined":
                    self.assertEqual(found[1], value(question, amounts))
                    self.assertEqual(cube.value(text), value(question, amounts))
                    stored = dict(cube.stored())
                    self.assertEqual(sum(Fraction(*times) * stored[group] for group, times in found[2]), found[1])
                    total = [0] * space.many
                    for group, times in found[2]:
                        total = [one + Fraction(*times) * two for one, two in zip(total, indicator(space, group))]
                    self.assertEqual(total, list(question))
                    self.assertEqual(in_order(space, [group for group, _ in found[2]]), tuple(g for g, _ in found[2]))
                    self.assertEqual(len(found), 3)
                else:
                    self.assertEqual(found, ("open", as_facts(told[1]), told[2]))
                    with self.assertRaises(NotDetermined):
                        cube.value(text)
            self.assertEqual(contents(cube), before)
        self.assertEqual(kinds, {"determined", "open"})

    def test_the_witness_changes_no_sum(self):
        for space, cube, _ in cubes():
            for text in some_texts(space):
                found = cube.ask(text)
                if found[0] == "open":
                    stored = cube.stored()
                    self.assertNotIn(0, [amount for _, amount in found[1]])
                    self.assertEqual([cell for cell, _ in found[1]], sorted({cell for cell, _ in found[1]}))
                    self.assertEqual(found[2], value(question_of(space, text), totals(space, found[1])))
                    cube.insert(found[1])
                    self.assertEqual(cube.stored(), stored)

    def test_by_hand(self):
        cube = started()
        self.assertEqual(cube.ask("sum where town in north"), ("determined", 30, ((NORTH, (1, 1)),)))
        self.assertEqual(cube.ask("3 * sum where town in south - sum"),
                         ("determined", 0, ((NORTH, (-1, 1)), (SOUTH, (2, 1)))))
        self.assertEqual(cube.ask("0 * sum"), ("determined", 0, ()))
        self.assertEqual(cube.ask(OSLO), ("open", ((0, -1), (1, -1), (2, 1), (3, 1)), 2))
        self.assertEqual(cube.ask("-" + OSLO), ("open", ((0, 1), (1, 1), (2, -1), (3, -1)), 2))
        self.assertEqual(Cube(EXAMPLE, ()).ask(f"7 * {OSLO} and month in may"), ("open", ((3, 1),), 7))

    def test_faulty_expressions(self):
        cube = started()
        for text, error, name, told in FAULTS:
            for asked in (cube.value, cube.ask, cube.missing):
                with self.assertRaises(error) as caught:
                    asked(text)
                self.assertEqual(getattr(caught.exception, name), told)


class WholeTest(unittest.TestCase):
    def test_groupings_all_of_whose_groups_are_stored(self):
        draw = random.Random(1)
        for space in sample_spaces():
            every = all_groupings(space)
            for _ in range(6):
                some = set()
                for grouping in draw.sample(every, min(3, len(every))):
                    if len(some | set(groups(space, grouping))) <= 40:
                        some |= set(groups(space, grouping))
                some = tuple(sorted(some))
                less = some[:-1]
                for chosen in (some, less):
                    expected = tuple(one for one in every if set(groups(space, one)) <= set(chosen))
                    self.assertEqual(Cube(space.dimensions, chosen).whole(), expected)

    def test_by_hand(self):
        for some, told in (((), ()), (REGIONS, ((1, 0),)), ((NORTH,), ()), ((ALL,), ((0, 0),)),
                           ((ALL, MAY, JUNE, NORTH), ((0, 0), (0, 1))), (groups(example(), (2, 1)), ((2, 1),))):
            self.assertEqual(Cube(EXAMPLE, some).whole(), told)

    def test_groupings_with_the_same_cells_are_others(self):
        self.assertEqual(Cube((CHAIN, MONTH), (("a", ""), ("d", ""), ("a/b", ""), ("d/e/f", ""))).whole(), ((1, 0),))


class MissingTest(unittest.TestCase):
    def test_beside_the_whole_groupings(self):
        draw = random.Random(7)
        for space, cube, _ in cubes():
            other = Cube(space.dimensions, groups(space, draw.choice(all_groupings(space))))
            for text in draw.sample(some_texts(space), 3):
                for asked in (cube, other):
                    expected = needs.missing(space, asked.whole(), question_of(space, text))
                    self.assertEqual(asked.missing(text), expected)

    def test_by_hand(self):
        cube = started()
        for text, told in (("sum", (0, 0)), ("sum where town in north", (0, 0)), (OSLO, (2, 0)),
                           ("sum where month in may", (0, 1)), (OSLO + " and month in may", (2, 1)),
                           ("sum where town in south and month in may", (1, 1))):
            self.assertEqual(cube.missing(text), told)

    def test_groups_of_other_groupings_do_not_count(self):
        # The group itself is stored, but its grouping is not whole.
        cube = started((("north/oslo", ""), NORTH))
        self.assertEqual(cube.ask(OSLO)[0], "determined")
        self.assertEqual(cube.missing(OSLO), (2, 0))
        self.assertEqual(cube.missing("sum where town in north"), (1, 0))


class ExampleTest(unittest.TestCase):
    def test_facts_that_have_the_stored_sums(self):
        for space, cube, _ in cubes():
            found = cube.example()
            self.assertEqual(sums(space, tuple(cube), totals(space, found)), tuple(total for _, total in cube.stored()))
            cells = [cell for cell, _ in found]
            self.assertEqual(cells, sorted(set(cells)))
            self.assertNotIn(0, [amount for _, amount in found])
            self.assertEqual({type(one) for pair in found for one in pair} | {int}, {int})
            self.assertIs(type(found), tuple)

    def test_no_sums_and_sums_of_zero(self):
        self.assertEqual(Cube(EXAMPLE, ()).example(), ())
        cube = Cube(EXAMPLE, groups(example(), (2, 1)))
        self.assertEqual(cube.example(), ())
        cube.insert(((3, 5), (1, -2), (3, -5)))
        self.assertEqual(cube.example(), ((1, -2),))

    def test_large_sums(self):
        cube = Cube(EXAMPLE, REGIONS + (JUNE, MAY))
        cube.insert(((0, 10 ** 18), (5, -10 ** 18)))
        found = totals(example(), cube.example())
        self.assertEqual(sums(example(), tuple(cube), found), tuple(total for _, total in cube.stored()))


class BoundsTest(unittest.TestCase):
    def test_bounds_with_the_sums_of_two_groupings(self):
        for space in sample_spaces():
            every = all_groupings(space)
            first, second = every[len(every) // 3], every[-2]
            amounts = tuple(abs(amount) for amount in drawn_amounts(space, 3))
            family = needs.family_of(space, (first, second))
            cube = Cube(space.dimensions, family)
            cube.insert(as_facts(amounts))
            kept = (sums(space, groups(space, first), amounts), sums(space, groups(space, second), amounts))
            for text in some_texts(space)[::3]:
                question = question_of(space, text)
                expected = (bounds.least(space, first, second, kept, question),
                            bounds.greatest(space, first, second, kept, question))
                self.assertEqual(cube.bounds(first, second, text), expected)
            self.assertEqual(cube.forced(first, second), bounds.forced(space, first, second, kept))

    def test_sums_that_are_determined_and_not_stored(self):
        cube = started(groups(example(), (2, 1)))
        low, high = cube.bounds((1, 0), (0, 1), "sum where town in north and month in may")
        self.assertEqual((low[0], high[0]), (20, 30))
        self.assertEqual(cube.forced((2, 0), (0, 0)), ())
        self.assertEqual(cube.forced((2, 1), (0, 0)), ((0, 10), (1, 0), (2, 0), (3, 20), (4, 0), (5, 15)))
        cube = started(REGIONS)
        self.assertEqual([found[0] for found in cube.bounds((0, 0), (1, 0), OSLO)], [0, 30])
        self.assertEqual([found[0] for found in cube.bounds((0, 0), (0, 0), OSLO)], [0, 45])

    def test_order_of_the_refusals(self):
        cube = started()
        bad, open_one, good = (3, 0), (2, 0), (1, 0)
        for text, error, name, told in FAULTS:
            for first, second in ((bad, bad), (bad, open_one), (open_one, bad), (open_one, good), (good, good)):
                with self.assertRaises(error) as caught:
                    cube.bounds(first, second, text)
                self.assertEqual(getattr(caught.exception, name), told)
        for wrong in (bad, (0,), (), (0, 0, 0), (-1, 0), (0, 2)):
            for first, second in ((wrong, good), (good, wrong), (wrong, open_one), (open_one, wrong), (wrong, wrong)):
                with self.assertRaises(BadGrouping):
                    cube.bounds(first, second, "sum")
                with self.assertRaises(BadGrouping):
                    cube.forced(first, second)
        for first, second in ((open_one, good), (good, open_one), ((0, 1), open_one), ((0, 1), (0, 1))):
            with self.assertRaises(NotDetermined):
                cube.bounds(first, second, "sum")
            with self.assertRaises(NotDetermined):
                cube.forced(first, second)

    def test_negative_sums_come_last(self):
        cube = started()
        cube.insert(((4, -100),))
        for first, second in (((1, 0), (1, 0)), ((1, 0), (0, 0)), ((0, 0), (1, 0)), ((0, 0), (0, 0))):
            with self.assertRaises(SumsDiffer):
                cube.bounds(first, second, "sum")
            with self.assertRaises(SumsDiffer):
                cube.forced(first, second)
        with self.assertRaises(NotDetermined):
            cube.bounds((1, 0), (2, 0), "sum")
        with self.assertRaises(BadGrouping):
            cube.forced((1, 0), (4, 0))


class OpenedTest(unittest.TestCase):
    def test_cells_with_their_amounts(self):
        many = 0
        for space, cube, amounts in cubes():
            expected = tuple((cell, amounts[cell]) for cell in secrets.opened_cells(space, tuple(cube)))
            self.assertEqual(cube.opened(), expected)
            many += len(expected)
        self.assertGreater(many, 10)

    def test_by_hand(self):
        self.assertEqual(started().opened(), ())
        cube = started((SOUTH, ("south", "june"), ("north/oslo", "may")))
        self.assertEqual(cube.opened(), ((3, 20), (4, 0), (5, 15)))


class NeedsTest(unittest.TestCase):
    def test_as_the_functions_tell(self):
        draw = random.Random(2)
        for space, cube, _ in cubes():
            texts = tuple(draw.sample(some_texts(space), 3))
            questions = tuple(question_of(space, text) for text in texts)
            self.assertEqual(cube.required(texts), needs.required(space, questions))
            if len(cube.required(texts)) <= 6:
                self.assertEqual(cube.cheapest(texts), needs.cheapest(space, questions))
            places = needs.further(space, tuple(cube), questions)
            self.assertEqual(cube.further(texts), tuple(texts[place] for place in places))
            if len(cube) <= 8:
                self.assertEqual(cube.withhold(texts), secrets.withhold(space, tuple(cube), questions))

    def test_by_hand(self):
        cube = started()
        may = "sum where month in may"
        for texts, told in (((), ((), (), (), ())), (("sum",), (((0, 0),), ((0, 0),), (), (NORTH,))),
                            ((OSLO, may), (((0, 1), (2, 0)), ((0, 1), (2, 0)), (OSLO, may), ())),
                            ((OSLO, "sum", OSLO, " " + OSLO), (((2, 0),), ((2, 0),), (OSLO,), (NORTH,))),
                            (("0 * sum",), ((), (), (), None)),
                            (("sum where town in south", "sum where town in north"),
                             (((1, 0),), ((1, 0),), (), REGIONS))):
            found = (cube.required(texts), cube.cheapest(texts), cube.further(texts), cube.withhold(texts))
            self.assertEqual(found, told)

    def test_further_questions_as_they_are_written(self):
        cube = started()
        texts = ("sum", " sum where month in may", "sum where month in june", "(sum where town in north/oslo)")
        self.assertEqual(cube.further(texts), (texts[1], texts[3]))

    def test_eight_questions_and_nine(self):
        cube = started()
        texts = tuple(f"{number} * sum" for number in range(1, 10))
        self.assertEqual(cube.required(texts[:8]), ((0, 0),))
        self.assertEqual(cube.cheapest(texts[:8]), ((0, 0),))
        self.assertEqual(cube.further(texts[:8]), ())
        for asked in (cube.required, cube.cheapest, cube.further):
            with self.assertRaises(TooLarge) as caught:
                asked(texts)
            self.assertEqual(caught.exception.count, 9)
        # Their number does not matter for groups to withhold.
        self.assertEqual(cube.withhold(texts), (NORTH,))

    def test_faulty_expressions_come_first(self):
        cube, large = started(), Cube(WIDE, tuple(all_groups(Space(WIDE))[:9]))
        for text, error, name, told in FAULTS[:2]:
            for asked in (large.required, large.cheapest, large.further, large.withhold):
                with self.assertRaises(error) as caught:
                    asked(("sum",) * 9 + (text,))
                self.assertEqual(getattr(caught.exception, name), told)
        for text, error, name, told in FAULTS:
            nine = ("sum",) * 9
            for texts in ((text,), ("sum", text), nine + (text,), (text,) + nine, (text, "sum sum", "where")):
                for asked in (cube.required, cube.cheapest, cube.further, cube.withhold):
                    with self.assertRaises(error) as caught:
                        asked(texts)
                    self.assertEqual(getattr(caught.exception, name), told)

    def test_the_first_faulty_expression_is_told(self):
        cube = started()
        for asked in (cube.required, cube.cheapest, cube.further, cube.withhold):
            with self.assertRaises(NoSuchName):
                asked(("sum", "sum where town in east", "sum sum"))
            with self.assertRaises(FaultyText):
                asked(("sum sum", "sum where town in east"))
            with self.assertRaises(TwiceAsked):
                asked(("sum where town in north and town in north", "", "sum where town in east"))

    def test_nine_stored_groups(self):
        cube = Cube(WIDE, tuple(all_groups(Space(WIDE))[:9]))
        for texts in ((), ("sum",), ("0 * sum",)):
            with self.assertRaises(TooLarge) as caught:
                cube.withhold(texts)
            self.assertEqual(caught.exception.count, 9)
        cube.drop((("", "j"),))
        self.assertEqual(len(cube), 8)
        self.assertEqual(cube.withhold(("sum",)), (("", ""),))

    def test_seven_required_groupings(self):
        leaves = ("a/a/a", "a/a/b", "a/b/a", "b/a/a")
        cube = Cube((("x", leaves), ("y", leaves), ("z", ("a/a", "a/b", "b/a"))), ())
        texts = ["sum where x in a/a/a and y in a", "sum where x in a/a and y in a/a",
                 "sum where x in a and y in a/a/a", "sum where x in a/a/a and z in a",
                 "sum where x in a/a and y in a and z in a", "sum where x in a and y in a/a and z in a",
                 "sum where y in a/a/a and z in a"]
        self.assertEqual(len(cube.required(tuple(texts))), 7)
        with self.assertRaises(TooLarge) as caught:
            cube.cheapest(tuple(texts))
        self.assertEqual(caught.exception.count, 7)
        self.assertEqual(len(cube.required(tuple(texts[:6]))), 6)
        family = needs.family_of(Space(cube.dimensions()), cube.cheapest(tuple(texts[:6])))
        for text in texts[:6]:
            question = question_of(Space(cube.dimensions()), text)
            self.assertIs(is_determined(Space(cube.dimensions()), family, question), True)


class DocumentTest(unittest.TestCase):
    """Point 2: the example at the beginning of the document."""

    def test_example(self):
        dimensions = (("town", ("north/bergen", "north/oslo", "south/rome")), ("month", ("june", "may")))
        space = Space(dimensions)
        cube = Cube(dimensions, (("north", ""), ("south", "")))
        facts = ((space.cell(("north/oslo", "may")), 20), (space.cell(("north/bergen", "june")), 10),
                 (space.cell(("south/rome", "may")), 15))
        cube.insert(facts)
        self.assertEqual(cube.stored(), ((("north", ""), 30), (("south", ""), 15)))
        self.assertEqual(cube.ask("sum where town in north")[:2], ("determined", 30))
        self.assertEqual(cube.ask("sum")[:2], ("determined", 45))
        kind, witness, difference = cube.ask("sum where town in north/oslo")
        self.assertEqual((kind, difference), ("open", 2))
        told = {space.coordinates(cell): amount for cell, amount in witness}
        self.assertEqual(told, {("north/bergen", "june"): -1, ("north/bergen", "may"): -1, ("north/oslo", "june"): 1,
                                ("north/oslo", "may"): 1})
        cube.insert(witness)
        self.assertEqual(cube.stored(), ((("north", ""), 30), (("south", ""), 15)))


if __name__ == "__main__":
    unittest.main()
