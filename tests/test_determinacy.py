"""Residuals, determined questions, answers, values by sums, independent places and rank: points 31 to 37."""

import random
import unittest
from fractions import Fraction
from functools import reduce
from math import gcd

from cubesums import determinacy
from cubesums.errors import NotDetermined
from cubesums.facts import sums, value
from cubesums.groupings import all_groupings, groups, indicator
from cubesums.vectors import as_fractions, inner, minus
from exact import (adds_up, dot, drawn_amounts, drawn_families, drawn_question, families, halves, indicators, mixed,
                   questions, rank_of, unit)
from samples import all_groups, example, integers, sample_spaces

REGIONS = (("north", ""), ("south", ""))


def cases():
    """Spaces, families and questions."""
    for space in sample_spaces():
        for family in families(space):
            for question in questions(space, family):
                yield space, family, question


def entries(vector):
    """The entries of a vector of the program as fractions of Python."""
    return [Fraction(*entry) for entry in vector]


class ResidualTest(unittest.TestCase):
    def test_sums_over_the_family_are_zero(self):
        for space, family, question in cases():
            found = determinacy.residual(space, family, question)
            self.assertEqual(len(found), space.many)
            for row in indicators(space, family):
                self.assertEqual(dot(row, entries(found)), 0)

    def test_rest_is_a_sum_of_multiples_of_indicators(self):
        for space, family, question in cases():
            found = entries(determinacy.residual(space, family, question))
            rest = [one - two for one, two in zip(question, found)]
            self.assertTrue(adds_up(indicators(space, family), rest))

    def test_residual_of_the_rest_is_zero(self):
        for space, family, question in cases():
            found = determinacy.residual(space, family, question)
            rest = [minus(one, two) for one, two in zip(as_fractions(question), found)]
            bottom = reduce(lambda one, two: one * two // gcd(one, two), [part for _, part in rest])
            whole = tuple(top * (bottom // part) for top, part in rest)
            self.assertEqual(determinacy.residual(space, family, whole), ((0, 1),) * space.many)

    def test_entries_are_fractions_in_lowest_terms(self):
        for space, family, question in cases():
            found = determinacy.residual(space, family, question)
            self.assertIs(type(found), tuple)
            for top, bottom in found:
                self.assertEqual((type(top), type(bottom), gcd(top, bottom)), (int, int, 1))
                self.assertGreaterEqual(bottom, 1)

    def test_no_group_leaves_the_question(self):
        for space in sample_spaces():
            for question in questions(space, ()):
                self.assertEqual(determinacy.residual(space, (), question), as_fractions(question))

    def test_group_of_all_cells_leaves_what_differs_from_the_mean(self):
        space = example()
        found = determinacy.residual(space, (("", ""),), (1, 0, 0, 0, 0, 0))
        self.assertEqual(found, ((5, 6),) + ((-1, 6),) * 5)
        found = determinacy.residual(space, REGIONS, (0, 0, 1, 1, 0, 0))
        self.assertEqual(found, ((-1, 2), (-1, 2), (1, 2), (1, 2), (0, 1), (0, 1)))

    def test_all_cells_leave_nothing(self):
        for space in sample_spaces():
            family = groups(space, all_groupings(space)[-1])
            self.assertEqual(determinacy.residual(space, family, integers(space)), ((0, 1),) * space.many)

    def test_dependent_groups_change_nothing(self):
        space = example()
        family = (("", ""),) + REGIONS + (("north/bergen", ""), ("north/oslo", ""))
        for question in questions(space, family):
            found = determinacy.residual(space, family, question)
            self.assertEqual(determinacy.residual(space, family[1:2] + family[2:4], question), found)
            self.assertEqual(determinacy.residual(space, family[::-1], question), found)
            self.assertEqual(determinacy.residual(space, family + family, question), found)

    def test_crossing_groupings(self):
        # Towns and months cross: the residual is what rows and columns leave.
        space = example()
        family = groups(space, (0, 1)) + groups(space, (2, 0))
        found = determinacy.residual(space, family, (6, 0, 0, 0, 0, 0))
        self.assertEqual(found, ((2, 1), (-2, 1), (-1, 1), (1, 1), (-1, 1), (1, 1)))


class DeterminedTest(unittest.TestCase):
    def test_determined_as_elimination_says(self):
        told = set()
        for space, family, question in cases():
            found = determinacy.is_determined(space, family, question)
            self.assertIs(found, adds_up(indicators(space, family), question))
            told.add(found)
        self.assertEqual(told, {True, False})

    def test_determined_if_the_residual_is_zero(self):
        for space, family, question in cases():
            zero = determinacy.residual(space, family, question) == ((0, 1),) * space.many
            self.assertIs(determinacy.is_determined(space, family, question), zero)

    def test_question_that_is_zero_everywhere(self):
        for space in sample_spaces():
            for family in families(space):
                zero = (0,) * space.many
                self.assertIs(determinacy.is_determined(space, family, zero), True)
                self.assertEqual(determinacy.answer(space, family, zero), ("determined", ()))
                self.assertEqual(determinacy.value_of(space, family, (7,) * len(family), zero), 0)

    def test_no_group_determines_only_zero(self):
        for space in sample_spaces():
            self.assertIs(determinacy.is_determined(space, (), (1,) * space.many), False)
            self.assertIs(determinacy.is_determined(space, (), (0,) * (space.many - 1) + (-1,)), False)

    def test_stored_groups_their_sums_and_multiples(self):
        for space in sample_spaces():
            for family in families(space):
                for row in indicators(space, family):
                    self.assertIs(determinacy.is_determined(space, family, row), True)
                    self.assertIs(determinacy.is_determined(space, family, tuple(-3 * one for one in row)), True)
                for seed in range(3):
                    self.assertIs(determinacy.is_determined(space, family, mixed(space, family, seed)), True)

    def test_only_fractions_of_sums_determine(self):
        space, family = halves()
        for cell in (1, 2, 4):
            self.assertIs(determinacy.is_determined(space, family, unit(space, cell)), True)
            for group in family[:3]:
                fewer = tuple(other for other in family if other != group)
                self.assertIs(determinacy.is_determined(space, fewer, unit(space, cell)), False)
        self.assertIs(determinacy.is_determined(space, family, unit(space, 7)), False)


class AnswerTest(unittest.TestCase):
    def check_terms(self, space, family, question, terms):
        total = [Fraction(0)] * space.many
        places = []
        for group, fraction in terms:
            self.assertNotEqual(fraction, (0, 1))
            self.assertEqual((gcd(*fraction), fraction[1] >= 1), (1, True))
            places.append(family.index(group))
            row = indicator(space, group)
            total = [one + Fraction(*fraction) * two for one, two in zip(total, row)]
        self.assertEqual(places, sorted(set(places)))
        self.assertEqual(total, list(question))

    def check_open(self, space, family, question, witness, difference):
        self.assertEqual(reduce(gcd, witness), 1)
        self.assertTrue(all(type(amount) is int for amount in witness))
        self.assertEqual(sums(space, family, witness), (0,) * len(family))
        self.assertEqual(difference, value(question, witness))
        self.assertGreater(difference, 0)
        residual = determinacy.residual(space, family, question)
        # The witness is a positive multiple of the residual.
        square = inner(residual, residual)
        times = Fraction(difference) / Fraction(*square)
        self.assertEqual([times * entry for entry in entries(residual)], list(witness))

    def test_answers(self):
        kinds = set()
        for space, family, question in cases():
            found = determinacy.answer(space, family, question)
            self.assertIs(type(found), tuple)
            kinds.add(found[0])
            self.assertIs(determinacy.is_determined(space, family, question), found[0] == "determined")
            if found[0] == "determined":
                self.assertEqual(len(found), 2)
                self.check_terms(space, family, question, found[1])
            else:
                self.assertEqual(len(found), 3)
                self.check_open(space, family, question, *found[1:])
        self.assertEqual(kinds, {"determined", "open"})

    def test_families_in_another_order_and_with_a_group_twice(self):
        for space in sample_spaces():
            for family in families(space):
                other = family[::-1]
                question = mixed(space, family, 2)
                self.check_terms(space, other, question, determinacy.answer(space, other, question)[1])
                self.check_terms(space, family + other, question,
                                 determinacy.answer(space, family + other, question)[1])

    def test_examples(self):
        space = example()
        self.assertEqual(determinacy.answer(space, REGIONS, (0, 0, 1, 1, 0, 0)), ("open", (-1, -1, 1, 1, 0, 0), 2))
        self.assertEqual(determinacy.answer(space, REGIONS, (1, 1, 1, 1, 0, 0)),
                         ("determined", ((("north", ""), (1, 1)),)))
        self.assertEqual(determinacy.answer(space, REGIONS, (1,) * 6),
                         ("determined", ((("north", ""), (1, 1)), (("south", ""), (1, 1)))))
        self.assertEqual(determinacy.answer(space, REGIONS, (-4, -4, -4, -4, 0, 0)),
                         ("determined", ((("north", ""), (-4, 1)),)))

    def test_terms_without_a_choice(self):
        # The indicators are independent, so that there is one derivation only.
        space = example()
        family = (("", "june"), ("", "may"), ("north", ""))
        self.assertEqual(determinacy.answer(space, family, (2, -1, 2, -1, 0, -3)),
                         ("determined", ((("", "may"), (-3, 1)), (("north", ""), (2, 1)))))
        space, family = halves()
        fractions = ((-1, 2), (1, 2), (1, 2), (-1, 2), (-1, 2), (-1, 2), (1, 2))
        told = ("determined", tuple(zip(family, fractions)))
        self.assertEqual(determinacy.answer(space, family, unit(space, 1)), told)

    def test_witness_of_a_single_cell(self):
        space = example()
        self.assertEqual(determinacy.answer(space, (), (0, 0, 5, 0, 0, 0)), ("open", (0, 0, 1, 0, 0, 0), 5))
        self.assertEqual(determinacy.answer(space, (("", ""),), (0, 0, 0, 0, 0, -2)),
                         ("open", (1, 1, 1, 1, 1, -5), 10))

    def test_large_coefficients_of_both_signs(self):
        for space in sample_spaces():
            for family in drawn_families(space, seed=3):
                for seed in range(3):
                    question = drawn_question(space, seed, 10 ** 40)
                    found = determinacy.answer(space, family, question)
                    if found[0] == "open":
                        self.check_open(space, family, question, *found[1:])
                    else:
                        self.check_terms(space, family, question, found[1])


class ValueTest(unittest.TestCase):
    def test_values_by_the_sums_of_facts(self):
        many = 0
        for at, (space, family, question) in enumerate(cases()):
            amounts = drawn_amounts(space, at)
            stored = sums(space, family, amounts)
            if determinacy.is_determined(space, family, question):
                found = determinacy.value_of(space, family, stored, question)
                self.assertEqual(found, value(question, amounts))
                self.assertIs(type(found), int)
                many += 1
            else:
                with self.assertRaises(NotDetermined):
                    determinacy.value_of(space, family, stored, question)
        self.assertGreater(many, 100)

    def test_fractions_of_sums(self):
        space, family = halves()
        for question in (unit(space, 1), unit(space, 4), (0, 0, 3, 0, -4, 0, 2, 0)):
            found = determinacy.answer(space, family, question)
            self.assertIn(2, {bottom for _, (_, bottom) in found[1]})
            for seed in range(20):
                amounts = drawn_amounts(space, seed)
                stored = sums(space, family, amounts)
                self.assertEqual(determinacy.value_of(space, family, stored, question), value(question, amounts))

    def test_example_of_the_document(self):
        space = example()
        self.assertEqual(determinacy.value_of(space, REGIONS, (30, 15), (1, 1, 1, 1, 0, 0)), 30)
        self.assertEqual(determinacy.value_of(space, REGIONS, (30, 15), (1,) * 6), 45)
        with self.assertRaises(NotDetermined):
            determinacy.value_of(space, REGIONS, (30, 15), (0, 0, 1, 1, 0, 0))

    def test_no_group(self):
        space = example()
        self.assertEqual(determinacy.value_of(space, (), (), (0,) * 6), 0)
        with self.assertRaises(NotDetermined):
            determinacy.value_of(space, (), (), (1,) * 6)

    def test_large_sums(self):
        space = example()
        stored = (10 ** 30 + 1, -10 ** 30)
        self.assertEqual(determinacy.value_of(space, REGIONS, stored, (3, 3, 3, 3, 2, 2)), 10 ** 30 + 3)


class IndependentTest(unittest.TestCase):
    def check(self, space, family):
        rows = indicators(space, family)
        expected = tuple(at for at in range(len(rows)) if rank_of(rows[:at + 1]) > rank_of(rows[:at]))
        found = determinacy.independent(space, family)
        self.assertEqual(found, expected)
        self.assertIs(type(found), tuple)
        self.assertEqual(determinacy.rank(space, family), len(expected))

    def test_families(self):
        for space in sample_spaces():
            for family in families(space):
                self.check(space, family)

    def test_families_in_another_order(self):
        for space in sample_spaces():
            for at, family in enumerate(families(space)):
                other = list(family)
                random.Random(at).shuffle(other)
                self.check(space, tuple(other))
                self.check(space, family[::-1])

    def test_by_hand(self):
        space = example()
        towns = (("north/bergen", ""), ("north/oslo", ""), ("south/rome", ""))
        for family, places in (((), ()), ((("", ""),), (0,)), ((("", ""),) + REGIONS, (0, 1)),
                               (REGIONS + (("", ""),), (0, 1)), (towns + REGIONS + (("", ""),), (0, 1, 2)),
                               ((("", ""), *REGIONS, *towns), (0, 1, 3)), (REGIONS + REGIONS, (0, 1)),
                               ((("south", ""), ("south/rome", ""), ("north", "")), (0, 2))):
            self.assertEqual(determinacy.independent(space, family), places)
            self.assertEqual(determinacy.rank(space, family), len(places))

    def test_all_groups_of_all_groupings(self):
        for space in sample_spaces():
            family = tuple(all_groups(space))
            self.assertEqual(determinacy.rank(space, family), space.many)
            self.assertEqual(determinacy.rank(space, family[::-1]), space.many)
            self.assertEqual(determinacy.independent(space, family[::-1]), tuple(range(space.many)))


if __name__ == "__main__":
    unittest.main()
