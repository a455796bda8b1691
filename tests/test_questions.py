"""Names in expressions, coefficients, what is too large, and the expressions of groups: points 18 to 21."""

import itertools
import unittest

from cubesums.errors import CubeError, FaultyText, NoSuchName, TooLarge, TwiceAsked
from cubesums.expressions import read_expression
from cubesums.groupings import indicator
from cubesums.questions import group_expression, question_of
from cubesums.space import Space
from samples import CHAIN, MONTH, NEAR, TOWN, all_groups, belongs, example, sample_spaces


def question_by_hand(space, tree):
    """Point 19: the coefficients of a tree."""
    return tuple(coefficient(space, space.coordinates(cell), tree) for cell in range(space.many))


def coefficient(space, leaves, tree):
    """The coefficient of a tree at a cell with these leaves."""
    kind, *rest = tree
    if kind == "sum":
        named = dict(zip([name for name, _ in space.dimensions], leaves))
        return int(all(any(belongs(named[name], path) for path in paths) for name, paths in rest[0]))
    if kind == "times":
        return rest[0] * coefficient(space, leaves, rest[1])
    worths = [coefficient(space, leaves, part) for part in rest]
    return {"minus": lambda: -worths[0], "plus": lambda: sum(worths), "less": lambda: worths[0] - worths[1]}[kind]()


def expression_by_hand(space, group):
    """Point 21: the expression of a group."""
    rows = [f"{name} in {path}" for (name, _), path in zip(space.dimensions, group) if path]
    return " where ".join(["sum"] + [" and ".join(rows)] * bool(rows))


class QuestionTest(unittest.TestCase):
    def asked(self, text, question, space=None):
        with self.subTest(text):
            self.assertEqual(question_of(space or example(), text), question)

    def test_example(self):
        self.asked("sum where town in north/oslo, south and month in may", (0, 0, 0, 1, 0, 1))

    def test_sums(self):
        self.asked("sum", (1, 1, 1, 1, 1, 1))
        self.asked("sum where town in north", (1, 1, 1, 1, 0, 0))
        self.asked("sum where town in north/oslo", (0, 0, 1, 1, 0, 0))
        self.asked("sum where month in may", (0, 1, 0, 1, 0, 1))
        self.asked("sum where month in june and town in south", (0, 0, 0, 0, 1, 0))
        self.asked("sum where town in south and month in june", (0, 0, 0, 0, 1, 0))

    def test_several_members_in_one_condition(self):
        self.asked("sum where month in may, june", (1, 1, 1, 1, 1, 1))
        self.asked("sum where town in south, north/bergen", (1, 1, 0, 0, 1, 1))
        self.asked("sum where town in north, north/oslo", (1, 1, 1, 1, 0, 0))
        self.asked("sum where town in north/oslo, north", (1, 1, 1, 1, 0, 0))
        self.asked("sum where town in north/oslo, north/oslo", (0, 0, 1, 1, 0, 0))
        self.asked("sum where town in north/bergen, north/oslo, south/rome", (1, 1, 1, 1, 1, 1))
        self.asked("sum where town in north/oslo, north, south, south/rome and month in may, may",
                   (0, 1, 0, 1, 0, 1))

    def test_members_of_several_levels_with_the_same_leaves(self):
        space = Space((CHAIN, MONTH))
        for path in ("a", "a/b", "a/b/c", "a, a/b", "a/b/c, a/b/c"):
            self.asked("sum where chain in " + path, (1, 1, 0, 0), space)
        space = Space((NEAR,))
        self.asked("sum where near in a", (1, 1, 0, 0, 0), space)
        self.asked("sum where near in ab/c, a/bc", (0, 1, 0, 1, 1), space)
        self.asked("sum where near in a/b, ab", (1, 0, 1, 1, 1), space)

    def test_terms(self):
        self.asked("2 * sum where town in north - sum", (1, 1, 1, 1, -1, -1))
        self.asked("-sum", (-1, -1, -1, -1, -1, -1))
        self.asked("-sum where month in may + 3 * sum where town in south", (0, -1, 0, -1, 3, 2))
        self.asked("0 * sum", (0, 0, 0, 0, 0, 0))
        self.asked("sum - sum", (0, 0, 0, 0, 0, 0))
        self.asked("sum where town in north + sum where town in north/oslo", (1, 1, 2, 2, 0, 0))
        self.asked("sum - (sum where town in north - sum where month in may)", (0, 1, 0, 1, 1, 2))
        self.asked("sum - sum where town in north - sum where month in may", (0, -1, 0, -1, 1, 0))
        self.asked("3 * (sum where town in south - 2 * sum where month in june)", (-6, 0, -6, 0, -3, 3))
        self.asked("-(2 * sum - (sum + sum where month in may))", (-1, 0, -1, 0, -1, 0))

    def test_against_trees_for_all_spaces(self):
        for space in sample_spaces():
            name, leaves = space.dimensions[0]
            other, more = space.dimensions[-1]
            first = f"sum where {name} in {leaves[0]}, {leaves[-1].split('/')[0]}"
            second = f"sum where {other} in {more[1]}"
            both = first if name == other else first + f" and {other} in {more[0]}"
            for one, two, three in itertools.product((first, second, both, "sum"), repeat=3):
                text = f"-17 * {one} + 3 * (4 * {two} - (-{three})) - {one}"
                question = question_of(space, text)
                self.assertEqual(question, question_by_hand(space, read_expression(text)))
                self.assertIs(type(question), tuple)
                self.assertEqual({type(worth) for worth in question}, {int})


class NameTest(unittest.TestCase):
    def refused(self, text, kind, name, space=None):
        with self.subTest(text):
            with self.assertRaises(CubeError) as caught:
                question_of(space or example(), text)
            self.assertIs(type(caught.exception), kind)
            self.assertEqual(caught.exception.name, name)

    def test_name_that_no_dimension_has(self):
        self.refused("sum where region in north", NoSuchName, "region")
        self.refused("sum where north in north", NoSuchName, "north")
        self.refused("sum where town in north and year in may", NoSuchName, "year")
        self.refused("sum - 2 * (sum where region in north)", NoSuchName, "region")
        self.refused("sum where town in north", NoSuchName, "town", Space((MONTH,)))

    def test_path_of_no_member(self):
        self.refused("sum where town in west", NoSuchName, "west")
        self.refused("sum where town in oslo", NoSuchName, "oslo")
        self.refused("sum where town in north / rome", NoSuchName, "north/rome")
        self.refused("sum where town in north/oslo/x", NoSuchName, "north/oslo/x")
        self.refused("sum where town in may", NoSuchName, "may")
        self.refused("sum where month in north", NoSuchName, "north")
        self.refused("sum where town in town", NoSuchName, "town")
        self.refused("sum where town in north, west, east", NoSuchName, "west")
        self.refused("sum where town in north, south, east", NoSuchName, "east")

    def test_dimension_twice(self):
        self.refused("sum where town in north and town in south", TwiceAsked, "town")
        self.refused("sum where town in north and town in north", TwiceAsked, "town")
        self.refused("sum where town in north and month in may and town in south", TwiceAsked, "town")
        self.refused("sum where month in may and town in north and month in june", TwiceAsked, "month")
        self.refused("sum + (sum where month in may and month in may)", TwiceAsked, "month")
        self.refused("sum where town in north and month in may and month in june and town in south",
                     TwiceAsked, "month")

    def test_dimension_once_in_each_of_two_sums(self):
        question = question_of(example(), "sum where town in north + sum where town in south")
        self.assertEqual(question, (1, 1, 1, 1, 1, 1))
        question = question_of(example(), "sum where town in north - 2 * (sum where town in north and month in may)")
        self.assertEqual(question, (1, -1, 1, -1, 0, 0))

    def test_two_faults_in_one_condition(self):
        self.refused("sum where region in west", NoSuchName, "region")
        self.refused("sum where region in north and region in south", NoSuchName, "region")
        self.refused("sum where town in north and town in west", TwiceAsked, "town")
        self.refused("sum where town in west, east", NoSuchName, "west")

    def test_two_faults_in_two_conditions(self):
        self.refused("sum where town in west and region in x", NoSuchName, "west")
        self.refused("sum where region in x and town in west", NoSuchName, "region")
        self.refused("sum where town in west and town in north", NoSuchName, "west")
        self.refused("sum where town in north and town in south and region in x", TwiceAsked, "town")
        self.refused("sum where town in north and month in july and town in south", NoSuchName, "july")
        self.refused("sum where town in north and region in x and town in south", NoSuchName, "region")
        self.refused("sum where town in north, west and month in july", NoSuchName, "west")

    def test_two_faults_in_two_sums(self):
        self.refused("sum where town in west + sum where region in x", NoSuchName, "west")
        self.refused("sum where region in x + sum where town in west", NoSuchName, "region")
        self.refused("(sum where month in may and month in may) - sum where region in x", TwiceAsked, "month")
        self.refused("sum - (2 * sum where town in west) - (sum where town in east)", NoSuchName, "west")
        self.refused("-sum where town in east - sum where town in west", NoSuchName, "east")

    def test_grammar_goes_ahead(self):
        for text, at in (("sum where region in west west", 6), ("sum where region in north -", 7),
                         ("sum where town in north and town in", 9), ("1001 * sum where region in x", 1)):
            with self.assertRaises(FaultyText) as caught:
                question_of(example(), text)
            self.assertEqual(caught.exception.at, at)

    def test_names_go_ahead_of_coefficients(self):
        self.refused("1000 * (sum + sum) + sum where region in x", NoSuchName, "region")
        self.refused("1000 * sum + sum + sum where town in west", NoSuchName, "west")
        self.refused("(1000 * sum + sum) - sum where month in may and month in may", TwiceAsked, "month")


class TooLargeTest(unittest.TestCase):
    def refused(self, text, count, space=None):
        with self.subTest(text[:80]):
            with self.assertRaises(TooLarge) as caught:
                question_of(space or example(), text)
            self.assertEqual(caught.exception.count, count)

    def taken(self, text, worth):
        with self.subTest(text):
            self.assertEqual(question_of(example(), text), (worth,) * 6)

    def test_just_small_enough(self):
        self.taken("1000 * sum", 1000)
        self.taken("-1000 * sum", -1000)
        self.taken("-(1000 * sum)", -1000)
        self.taken("999 * sum + sum", 1000)
        self.taken("-999 * sum - sum", -1000)
        self.taken("0 * sum - 1000 * sum", -1000)
        self.taken("500 * (sum + sum)", 1000)
        self.taken("500 * (-sum - sum)", -1000)
        self.taken("1000 * sum - 1000 * sum + 1000 * sum", 1000)
        self.taken("1000 * (-(-(-sum)))", -1000)
        self.taken("1000 * sum - (1000 * sum - 1000 * sum)", 1000)

    def test_just_too_large(self):
        self.refused("1000 * sum + sum", 1001)
        self.refused("-1000 * sum - sum", 1001)
        self.refused("0 * sum - 1000 * sum - sum", 1001)
        self.refused("-(1000 * sum + sum)", 1001)
        self.refused("7 * (143 * sum)", 1001)
        self.refused("7 * (-143 * sum)", 1001)
        self.refused("sum - (0 * sum - 1000 * sum)", 1001)

    def test_inside_of_parentheses_and_taken_away_again(self):
        self.refused("(1000 * sum + sum) - 1000 * sum", 1001)
        self.refused("1000 * sum + sum - sum", 1001)
        self.refused("0 * (1000 * sum + 2 * sum)", 1002)
        self.refused("sum - (1000 * sum + 3 * sum)", 1003)
        self.refused("sum - (sum + (sum - (2 * (502 * sum))))", 1004)

    def test_multiples(self):
        self.refused("2 * (501 * sum)", 1002)
        self.refused("1000 * (1000 * sum)", 1000000)
        self.refused("1000 * (-1000 * sum)", 1000000)
        self.refused("1000 * (2 * sum where town in south)", 2000)

    def test_greatest_of_the_coefficients(self):
        self.refused("1000 * sum where month in may + sum where town in north", 1001)
        self.refused("900 * sum where town in north - 1000 * sum where town in south - sum", 1001)
        self.refused("1000 * sum + sum where town in north + sum", 1001)
        self.refused("1000 * sum + (sum where town in north + sum)", 1002)
        self.refused("-1000 * sum where month in may - (sum + 7 * sum where town in south)", 1008)
        self.refused("3 * (400 * sum where town in north - 500 * sum where month in may)", 1500)

    def test_first_result_counts(self):
        self.refused("600 * sum + 600 * sum - (700 * sum + 700 * sum)", 1200)
        self.refused("(700 * sum + 700 * sum) - 600 * sum - 600 * sum", 1400)
        self.refused("sum + 3 * (500 * sum) - 1000 * (3 * sum)", 1500)
        self.refused("1000 * sum + 1000 * (sum + sum)", 2000)
        self.refused("1000 * sum + 1000 * (1000 * sum + 3 * sum)", 1003)
        self.refused("-3 * (400 * sum) + 3 * (500 * sum)", 1200)
        self.refused("999 * sum + 2 * sum - 900 * sum + 999 * sum", 1001)
        self.refused("2 * (300 * (4 * sum)) + 1000 * (1000 * sum)", 1200)

    def test_many_terms(self):
        self.refused("999 * sum" + "+sum" * 70, 1001)
        self.assertEqual(question_of(example(), "-".join(["sum"] * 75)), (-73,) * 6)

    def test_three_hundred_characters(self):
        text = "+".join(["sum"] * 75)
        self.assertEqual(len(text), 299)
        self.taken(text, 75)
        self.taken(text + " ", 75)
        self.taken("sum" + " " * 297, 1)
        self.taken(" " * 297 + "sum", 1)
        self.refused(text + "  ", 301)
        self.refused("sum" + " " * 298, 301)
        self.refused("sum" + " " * 997, 1000)

    def test_length_goes_ahead_of_everything(self):
        self.refused("?" * 301, 301)
        self.refused(" " * 301, 301)
        self.refused("sum where region in west".ljust(301), 301)
        self.refused("sum where town in north and town in south".ljust(302), 302)
        self.refused("1000 * sum + 1000 * sum".ljust(303), 303)
        self.refused("(" * 400, 400)
        self.refused("sum sum".rjust(301), 301)

    def test_faults_at_three_hundred_characters(self):
        with self.assertRaises(FaultyText) as caught:
            question_of(example(), "?" * 300)
        self.assertEqual(caught.exception.at, 1)
        with self.assertRaises(FaultyText) as caught:
            question_of(example(), "sum sum".rjust(300))
        self.assertEqual(caught.exception.at, 2)
        with self.assertRaises(FaultyText) as caught:
            question_of(example(), "")
        self.assertEqual(caught.exception.at, 1)


class GroupTest(unittest.TestCase):
    def test_example(self):
        for group, text in ((("", ""), "sum"), (("north", ""), "sum where town in north"),
                            (("", "may"), "sum where month in may"),
                            (("north/oslo", "may"), "sum where town in north/oslo and month in may")):
            self.assertEqual(group_expression(example(), group), text)

    def test_order_of_the_dimensions(self):
        space = Space((MONTH, TOWN, CHAIN))
        self.assertEqual(group_expression(space, ("may", "south", "a/b")),
                         "sum where month in may and town in south and chain in a/b")
        self.assertEqual(group_expression(space, ("may", "", "a/b/c")), "sum where month in may and chain in a/b/c")
        self.assertEqual(group_expression(space, ("", "north", "")), "sum where town in north")
        self.assertEqual(group_expression(space, ("", "", "")), "sum")

    def test_all_groups_read_back(self):
        for space in sample_spaces():
            for group in all_groups(space):
                text = group_expression(space, group)
                self.assertEqual(text, expression_by_hand(space, group))
                self.assertEqual(question_of(space, text), indicator(space, group))

    def test_longest_group(self):
        leaf = "/".join(["abcdefgh"] * 3)
        other = "/".join(["zzzzzzzz"] * 3)
        space = Space(tuple((name, (leaf, other)) for name in ("abcdefgh", "bbbbbbbb", "cccccccc")))
        text = group_expression(space, (leaf, other, leaf))
        self.assertLessEqual(len(text), 300)
        self.assertEqual(question_of(space, text), (0, 0, 1, 0, 0, 0, 0, 0))


if __name__ == "__main__":
    unittest.main()
