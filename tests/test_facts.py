"""Facts, amounts, values, sums, and texts of facts: points 22 to 25."""

import unittest

from cubesums.errors import CubeError, FaultyText, NoSuchCell, TooLarge
from cubesums.facts import as_facts, facts_of, facts_text, sums, totals, value
from cubesums.groupings import indicator
from cubesums.space import Space
from samples import MONTH, all_groups, example, integers, is_inside, sample_spaces

LINE = "north/oslo may 20\n"
FACTS = ((3, 20), (0, 10), (5, 15))
TEXT = "north/oslo may 20\nnorth/bergen june 10\nsouth/rome may 15\n"
AMOUNTS = ("0", "1", "9", "10", "-1", "-10", "123456789", "-123456789", "999999999", "-999999999", "100000000")
NO_AMOUNTS = ("", "-", "-0", "+1", "+0", "00", "01", "007", "-01", "-00", "1234567890", "-1234567890", "0000000001",
              "1000000000", "--1", "1-", "1.0", "1.", "1e3", "0x1", "1_0", "a", "1a", "a1", "- 1", "1,000", "one", "/",
              "1" * 400, "-" + "1" * 400, "0" * 10)
NO_CELLS = ("", "may", "north/oslo", "may north/oslo", "north may", "north/oslo may may", "north/oslo  may",
            "oslo may", "north/rome may", "north/oslo july", "North/oslo may", "north/oslo MAY", "north/oslo,may",
            "north/oslo/ may", "/north/oslo may", "north//oslo may", "* may", "south may", "north/oslo north/oslo",
            "1 may", " north/oslo may", "north/oslo may ", "north/oslo june may", "fact north/oslo may", "/ may")


class TotalTest(unittest.TestCase):
    def test_no_fact(self):
        self.assertEqual(totals(example(), ()), (0, 0, 0, 0, 0, 0))

    def test_facts(self):
        self.assertEqual(totals(example(), FACTS), (10, 0, 0, 20, 0, 15))
        self.assertEqual(totals(example(), FACTS[::-1]), (10, 0, 0, 20, 0, 15))
        self.assertEqual(totals(example(), ((2, -7),)), (0, 0, -7, 0, 0, 0))
        self.assertEqual(totals(example(), ((5, 10 ** 30), (0, 0))), (0, 0, 0, 0, 0, 10 ** 30))

    def test_several_facts_at_one_cell(self):
        self.assertEqual(totals(example(), ((1, 5), (2, 1), (1, 6), (1, -1))), (0, 10, 1, 0, 0, 0))
        self.assertEqual(totals(example(), ((4, 3), (4, 3))), (0, 0, 0, 0, 6, 0))

    def test_facts_that_cancel(self):
        self.assertEqual(totals(example(), ((1, 5), (3, -2), (1, -5), (3, 2))), (0, 0, 0, 0, 0, 0))

    def test_cell_that_there_is_not(self):
        for space in sample_spaces():
            for cell in (-1, -space.many, -space.many - 1, space.many, space.many + 1, 1000):
                for facts in (((cell, 1),), ((cell, 0),), ((0, 1), (cell, 1)), ((cell, 1), (0, 1))):
                    for call in (totals, facts_text):
                        with self.subTest(cell), self.assertRaises(NoSuchCell):
                            call(space, facts)
            last = totals(space, ((space.many - 1, 4), (0, 3)))
            self.assertEqual(last, (3,) + (0,) * (space.many - 2) + (4,))

    def test_as_facts(self):
        self.assertEqual(as_facts((10, 0, 0, 20, 0, 15)), ((0, 10), (3, 20), (5, 15)))
        self.assertEqual(as_facts((0, 0)), ())
        self.assertEqual(as_facts((-1, -1, 1, 1, 0, 0)), ((0, -1), (1, -1), (2, 1), (3, 1)))
        self.assertEqual(as_facts((0, 0, 5)), ((2, 5),))
        for space in sample_spaces():
            amounts = integers(space)
            self.assertEqual(totals(space, as_facts(amounts)), amounts)
            self.assertEqual([cell for cell, _ in as_facts(amounts)],
                             [cell for cell, amount in enumerate(amounts) if amount])


class ValueTest(unittest.TestCase):
    def test_value(self):
        self.assertEqual(value((1, 1, 1, 1, 1, 1), (10, 0, 0, 20, 0, 15)), 45)
        self.assertEqual(value((0, 0, 1, 1, 0, 0), (10, 0, 0, 20, 0, 15)), 20)
        self.assertEqual(value((2, -1, 0, 3, 0, -1), (10, 7, 5, -20, 3, 15)), 20 - 7 - 60 - 15)
        self.assertEqual(value((0, 0), (5, 6)), 0)
        self.assertEqual(value((-1, 1000), (10 ** 20, 10 ** 20)), 999 * 10 ** 20)

    def test_sums_of_the_example(self):
        amounts = totals(example(), FACTS)
        self.assertEqual(sums(example(), (("north", ""), ("south", "")), amounts), (30, 15))
        self.assertEqual(sums(example(), (("", ""),), amounts), (45,))
        self.assertEqual(sums(example(), (("", "june"), ("", "may"), ("north", "may")), amounts), (10, 35, 20))
        self.assertEqual(sums(example(), (), amounts), ())

    def test_sums_over_all_groups(self):
        for space in sample_spaces():
            family = tuple(all_groups(space))
            for seed in (0, 5):
                amounts = integers(space, seed)
                by_hand = tuple(sum(amount for cell, amount in enumerate(amounts) if is_inside(space, cell, group))
                                for group in family)
                self.assertEqual(sums(space, family, amounts), by_hand)
                self.assertEqual(tuple(value(indicator(space, group), amounts) for group in family), by_hand)


class TextTest(unittest.TestCase):
    def refused(self, text, at, space=None):
        with self.subTest(text[:60]):
            with self.assertRaises(CubeError) as caught:
                facts_of(space or example(), text)
            self.assertIs(type(caught.exception), FaultyText)
            self.assertEqual(caught.exception.at, at)

    def too_large(self, text, count):
        with self.subTest(text[:60]):
            with self.assertRaises(CubeError) as caught:
                facts_of(example(), text)
            self.assertIs(type(caught.exception), TooLarge)
            self.assertEqual(caught.exception.count, count)

    def test_no_facts(self):
        self.assertEqual(facts_of(example(), ""), ())
        self.assertEqual(facts_text(example(), ()), "")

    def test_facts(self):
        self.assertEqual(facts_of(example(), LINE), ((3, 20),))
        self.assertEqual(facts_of(example(), TEXT), FACTS)
        self.assertEqual(facts_text(example(), FACTS), TEXT)
        self.assertEqual(facts_text(example(), ((1, -5), (1, 0))), "north/bergen may -5\nnorth/bergen may 0\n")

    def test_order_and_doubles_are_kept(self):
        text = LINE + "south/rome june -3\n" + LINE + LINE
        self.assertEqual(facts_of(example(), text), ((3, 20), (4, -3), (3, 20), (3, 20)))
        self.assertEqual(facts_text(example(), facts_of(example(), text)), text)

    def test_one_dimension(self):
        self.assertEqual(facts_of(Space((MONTH,)), "may 3\njune -4\n"), ((1, 3), (0, -4)))
        self.refused("may may 3\n", 1, Space((MONTH,)))
        self.refused("3\n", 1, Space((MONTH,)))

    def test_there_and_back(self):
        for space in sample_spaces():
            cells = [(7 * k) % space.many for k in range(55)]
            facts = tuple(zip(cells, [(-1) ** at * at ** 5 for at in range(55)]))
            text = facts_text(space, facts)
            self.assertEqual(facts_of(space, text), facts)
            lines = [" ".join(space.coordinates(cell)) + " " + str(amount) for cell, amount in facts]
            self.assertEqual(text, "".join(line + "\n" for line in lines))

    def test_text_of_any_facts(self):
        text = facts_text(example(), ((0, 10 ** 12), (1, -10 ** 12)) * 40)
        self.assertEqual(text, "north/bergen june 1000000000000\nnorth/bergen may -1000000000000\n" * 40)

    def test_kinds_of_values(self):
        facts = facts_of(example(), TEXT)
        self.assertEqual({type(facts), *map(type, facts)}, {tuple})
        self.assertEqual({type(number) for fact in facts for number in fact}, {int})
        for found in (totals(example(), facts), as_facts((1, 0)), sums(example(), (("", ""),), (1,) * 6)):
            self.assertIs(type(found), tuple)

    def test_amounts(self):
        for amount in AMOUNTS:
            with self.subTest(amount):
                self.assertEqual(facts_of(example(), f"north/oslo may {amount}\n"), ((3, int(amount)),))
                self.assertEqual(facts_text(example(), ((3, int(amount)),)), f"north/oslo may {amount}\n")

    def test_no_amounts(self):
        for amount in NO_AMOUNTS:
            self.refused(f"north/oslo may {amount}\n", 1)
            self.refused(LINE + f"north/oslo may {amount}\n" + LINE, 2)

    def test_no_cells(self):
        for cell in NO_CELLS:
            self.refused(f"{cell} 20\n", 1)
            self.refused(LINE + LINE + f"{cell} 20\n", 3)

    def test_blanks(self):
        for line in (" north/oslo may 20", "north/oslo  may 20", "north/oslo may  20", "north/oslo may 20 ",
                     "north/oslomay 20", "north/oslo may20", "north/oslomay20", "  ", " ", "   ", "20",
                     " 20", "north/oslo may ", "north/oslo may", "north/oslo 20", "may 20"):
            self.refused(line + "\n", 1)
            self.refused(LINE + line + "\n", 2)

    def test_word_too_many(self):
        for line in ("north/oslo may 20 20", "north/oslo may may 20", "north/oslo may 20 x", "x north/oslo may 20",
                     "20 north/oslo may"):
            self.refused(line + "\n", 1)

    def test_empty_lines(self):
        self.refused("\n", 1)
        self.refused("\n\n", 1)
        self.refused(LINE + "\n", 2)
        self.refused("\n" + LINE, 1)
        self.refused(LINE + "\n" + LINE, 2)

    def test_first_faulty_line_counts(self):
        self.refused(LINE + "x\n" + LINE + "\n", 2)
        self.refused(LINE * 30 + "north/oslo may 1234567890\n" + "north may 1\n", 31)
        self.refused("north/oslo may -0\n" * 60, 1)
        self.refused(LINE * 59 + "x\n", 60)

    def test_no_line_feed_at_the_end(self):
        self.refused(LINE[:-1], 1)
        self.refused("x", 1)
        self.refused(" ", 1)
        self.refused(LINE + LINE[:-1], 2)
        self.refused(LINE + " ", 2)
        self.refused("x\n\n" + LINE[:-1], 3)
        self.refused("x\nx\nx", 3)
        self.refused("\n ", 2)

    def test_sixty_lines(self):
        self.assertEqual(facts_of(example(), LINE * 60), ((3, 20),) * 60)
        self.too_large(LINE * 61, 61)
        self.too_large(LINE * 200, 200)

    def test_number_of_lines_goes_ahead_of_faulty_lines(self):
        self.too_large("x\n" + LINE * 60, 61)
        self.too_large("\n" * 61, 61)
        self.too_large(LINE * 60 + "x\n", 61)
        self.refused("\n" * 60, 1)

    def test_line_feed_goes_ahead_of_the_number_of_lines(self):
        self.refused(LINE * 60 + "x", 61)
        self.refused(LINE * 61 + LINE[:-1], 62)
        self.refused("x\n" * 100 + "x", 101)
        self.refused(LINE * 59 + LINE[:-1], 60)

    def test_other_signs(self):
        for sign in "!\"#$&'()*+,-./0:;<=>?@AZ[\\]^_`az{|}~\n":
            self.refused(sign + LINE, 1)
            self.refused("north/oslo" + sign + " may 20\n", 1)
            self.refused("north/oslo may" + sign + " 20\n", 1)
            if sign not in "0\n":
                self.refused("north/oslo may 20" + sign + "\n", 1)


if __name__ == "__main__":
    unittest.main()
