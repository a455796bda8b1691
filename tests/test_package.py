"""Point 3, the interface's names and arguments, and what can be checked of the language's rules."""

import ast
import builtins
import copy
import doctest
import inspect
import unittest
from importlib import import_module
from pathlib import Path

from cubesums import (bounds, determinacy, expressions, facts, groupings, needs, questions, realize, secrets, texts,
                      vectors)
from cubes import ALL, EXAMPLE, NORTH, REGIONS, SOUTH, contents, started
from samples import integers, sample_spaces

ROOT = Path(__file__).resolve().parent.parent
PACKAGE = ROOT / "cubesums"
LIBRARY = {
    "heapq": {"heappush", "heappop", "heapify", "heapreplace", "heappushpop"},
    "math": {"gcd", "lcm", "isqrt", "comb", "perm", "factorial"},
    "collections": {"defaultdict", "deque"},
}
BUILTINS = set(
    "len range enumerate zip map min max sum abs sorted reversed int str bool list tuple dict set isinstance ord repr "
    "any all divmod pow iter next getattr hasattr setattr type bytes frozenset object property staticmethod "
    "classmethod super True False None NotImplemented Exception ValueError TypeError KeyError IndexError LookupError "
    "ZeroDivisionError ArithmeticError OverflowError RuntimeError NotImplementedError AttributeError "
    "StopIteration".split())
# Python's prompt, and so doctest, puts the name _ among the builtins.
OTHER_BUILTINS = set(dir(builtins)) - BUILTINS - {"_"}
FUNCTIONS = {
    "space": {"is_word": ["text"]},
    "groupings": {
        "check_grouping": ["space", "grouping"], "check_group": ["space", "group"], "all_groupings": ["space"],
        "groups": ["space", "grouping"], "group_numbers": ["space", "grouping"], "room": ["space", "grouping"],
        "coarser": ["one", "two"], "meet": ["one", "two"], "join": ["one", "two"], "grouping_of": ["group"],
        "group_of": ["space", "grouping", "cell"], "group_cells": ["space", "group"],
        "indicator": ["space", "group"], "in_order": ["space", "some"],
    },
    "expressions": {"tokens": ["text"], "read_expression": ["text"]},
    "questions": {"question_of": ["space", "text"], "group_expression": ["space", "group"]},
    "facts": {
        "facts_of": ["space", "text"], "facts_text": ["space", "facts"], "totals": ["space", "facts"],
        "as_facts": ["amounts"], "value": ["question", "amounts"], "sums": ["space", "family", "amounts"],
    },
    "vectors": {
        "fraction": ["top", "bottom"], "plus": ["one", "two"], "minus": ["one", "two"], "times": ["one", "two"],
        "over": ["one", "two"], "below": ["one", "two"], "fraction_text": ["one"], "as_fractions": ["integers"],
        "inner": ["first", "second"], "projection": ["space", "grouping", "vector"],
        "component": ["space", "grouping", "vector"], "primitive": ["vector"],
    },
    "determinacy": {
        "residual": ["space", "family", "question"], "is_determined": ["space", "family", "question"],
        "answer": ["space", "family", "question"], "value_of": ["space", "family", "sums", "question"],
        "independent": ["space", "family"], "rank": ["space", "family"],
    },
    "realize": {"realize": ["space", "family", "sums"]},
    "needs": {
        "family_of": ["space", "groupings"], "missing": ["space", "groupings", "question"],
        "redundant": ["space", "groupings"], "room_of": ["space", "groupings"], "required": ["space", "questions"],
        "cheapest": ["space", "questions"], "further": ["space", "family", "questions"],
    },
    "bounds": {
        "consistent": ["space", "first", "second", "kept"], "least": ["space", "first", "second", "kept", "question"],
        "greatest": ["space", "first", "second", "kept", "question"], "forced": ["space", "first", "second", "kept"],
    },
    "secrets": {
        "opened_cells": ["space", "family"], "opened_groups": ["space", "family", "grouping"],
        "withhold": ["space", "family", "questions"],
    },
    "texts": {"cube_text": ["cube"], "cube_of": ["text"], "drill": ["cube", "names", "open_too"]},
}
METHODS = {
    ("space", "Space"): {
        "__init__": ["dimensions"], "depth": ["at"], "members": ["at", "level"], "dimension_at": ["name"],
        "leaves_of": ["at", "path"], "parts": ["cell"], "coordinates": ["cell"], "cell": ["coordinates"],
    },
    ("cube", "Cube"): {
        "__init__": ["dimensions", "stored"], "__iter__": [], "__len__": [], "dimensions": [], "stored": [],
        "copy_of": [], "insert": ["facts"], "store": ["chosen"], "drop": ["chosen"], "merge": ["other"],
        "back": ["number"], "watch": ["text"], "unwatch": ["text"], "watched": [], "mark": [], "marks": [],
        "compare": ["number"], "since": ["number", "text"], "value": ["text"], "ask": ["text"], "example": [],
        "whole": [], "missing": ["text"], "required": ["texts"], "cheapest": ["texts"], "further": ["texts"],
        "withhold": ["texts"], "opened": [], "bounds": ["first", "second", "text"], "forced": ["first", "second"],
    },
}


def files():
    """The files of the package."""
    return sorted(PACKAGE.rglob("*.py"))


def trees():
    """The file and the syntax tree of each file of the package."""
    return [(path.name, ast.parse(path.read_text())) for path in files()]


def is_plain(answer):
    """Point 3: tell whether a value is an integer, a string, True, False, None, or a tuple of such throughout."""
    return type(answer) in (int, str, bool, type(None)) or type(answer) is tuple and all(map(is_plain, answer))


class InterfaceTest(unittest.TestCase):
    def test_functions(self):
        for name, functions in FUNCTIONS.items():
            module = import_module("cubesums." + name)
            for function, arguments in functions.items():
                with self.subTest(function):
                    found = getattr(module, function)
                    self.assertEqual(found.__module__, module.__name__)
                    self.assertEqual(list(inspect.signature(found).parameters), arguments)

    def test_argument_by_keyword(self):
        found = inspect.signature(texts.drill).parameters["open_too"]
        self.assertEqual((found.kind, found.default), (inspect.Parameter.KEYWORD_ONLY, True))

    def test_methods(self):
        for (name, kind), methods in METHODS.items():
            module = import_module("cubesums." + name)
            found = getattr(module, kind)
            self.assertEqual(found.__module__, module.__name__)
            for method, arguments in methods.items():
                with self.subTest(method):
                    self.assertIn(method, vars(found))
                    self.assertEqual(list(inspect.signature(vars(found)[method]).parameters)[1:], arguments)

    def test_examples_of_the_readme(self):
        failed, many = doctest.testfile(str(ROOT / "README.md"), module_relative=False)
        self.assertEqual(failed, 0)
        self.assertGreater(many, 0)


class ArgumentTest(unittest.TestCase):
    def test_no_function_changes_the_space(self):
        for space in sample_spaces():
            before = copy.deepcopy(vars(space))
            for grouping in groupings.all_groupings(space):
                family = groupings.groups(space, grouping)
                groupings.room(space, grouping)
                groupings.group_numbers(space, grouping)
                groupings.in_order(space, family[::-1])
                for group in family:
                    groupings.indicator(space, group)
                for cell in range(space.many):
                    groupings.group_of(space, grouping, cell)
            for at, (name, leaves) in enumerate(space.dimensions):
                self.assertEqual(space.dimension_at(name), at)
                space.leaves_of(at, leaves[0])
            self.assertEqual(vars(space), before)

    def test_no_function_of_questions_facts_and_vectors_changes_the_space(self):
        for space in sample_spaces():
            before = copy.deepcopy(vars(space))
            amounts = integers(space)
            vector = vectors.as_fractions(amounts)
            for grouping in groupings.all_groupings(space):
                family = groupings.groups(space, grouping)
                facts.sums(space, family, amounts)
                vectors.projection(space, grouping, vector)
                vectors.component(space, grouping, vector)
                for group in family:
                    questions.question_of(space, questions.group_expression(space, group))
            told = facts.as_facts(amounts)
            self.assertEqual(facts.facts_of(space, facts.facts_text(space, told)), told)
            self.assertEqual(facts.totals(space, told), amounts)
            self.assertEqual(vars(space), before)

    def test_all_parts_of_answers_are_plain(self):
        for space in sample_spaces():
            amounts = integers(space)
            vector = vectors.as_fractions(amounts)
            told = facts.as_facts(amounts)
            text = f"-2 * sum - (sum where {space.dimensions[0][0]} in {space.dimensions[0][1][0]})"
            found = [expressions.tokens(text), expressions.read_expression(text), questions.question_of(space, text),
                     told, facts.facts_text(space, told), facts.facts_of(space, facts.facts_text(space, told)),
                     facts.totals(space, told), facts.value(amounts, amounts), facts.sums(space, (), amounts), vector,
                     vectors.inner(vector, vector), vectors.primitive(vector)]
            for grouping in groupings.all_groupings(space):
                family = groupings.groups(space, grouping)
                found += [facts.sums(space, family, amounts), questions.group_expression(space, family[-1]),
                          vectors.projection(space, grouping, vector), vectors.component(space, grouping, vector)]
            for answer in found:
                self.assertTrue(is_plain(answer), answer)

    def test_what_sums_determine_and_need(self):
        for space in sample_spaces():
            before = copy.deepcopy(vars(space))
            every = groupings.all_groupings(space)
            stored = (every[1], every[len(every) // 2])
            family = needs.family_of(space, stored)
            question = integers(space)
            wanted = facts.sums(space, family, question)
            inside = groupings.indicator(space, family[0])
            found = [family, determinacy.residual(space, family, question), determinacy.rank(space, family),
                     determinacy.answer(space, family, question), determinacy.answer(space, family, inside),
                     determinacy.independent(space, family), determinacy.value_of(space, family, wanted, inside),
                     realize.realize(space, family, wanted), realize.realize(space, family + family[:1], wanted + (7,)),
                     needs.missing(space, stored, question), needs.redundant(space, every),
                     needs.room_of(space, stored), needs.required(space, (inside, question)),
                     needs.cheapest(space, (inside,)), needs.further(space, family, (inside, question))]
            for answer in found:
                self.assertTrue(is_plain(answer), answer)
            self.assertIs(determinacy.is_determined(space, family, inside), True)
            self.assertEqual(vars(space), before)

    def test_bounds_and_secrets(self):
        for space in sample_spaces():
            before = copy.deepcopy(vars(space))
            every = groupings.all_groupings(space)
            first, second = every[1], every[len(every) // 2]
            amounts = tuple(abs(amount) for amount in integers(space))
            kept = tuple(facts.sums(space, groupings.groups(space, one), amounts) for one in (first, second))
            family = needs.family_of(space, (first, second))
            found = [bounds.consistent(space, first, second, kept), bounds.forced(space, first, second, kept),
                     bounds.least(space, first, second, kept, integers(space)),
                     bounds.greatest(space, first, second, kept, integers(space)),
                     secrets.opened_cells(space, family), secrets.opened_groups(space, family, first),
                     secrets.withhold(space, family[:6], (integers(space), groupings.indicator(space, family[0]))),
                     secrets.withhold(space, family[:6], ((0,) * space.many,))]
            for answer in found:
                self.assertTrue(is_plain(answer), answer)
            self.assertEqual(vars(space), before)

    def answers(self, cube):
        """What a cube tells without being changed."""
        oslo = "sum where town in north/oslo"
        return (cube.dimensions(), cube.stored(), cube.watched(), cube.marks(), cube.compare(0), cube.since(0, "sum"),
                cube.value("sum"), cube.ask("sum"), cube.ask(oslo), cube.example(), cube.whole(), cube.missing(oslo),
                cube.required(("sum", oslo)), cube.cheapest(("sum", oslo)), cube.further(("sum", oslo)),
                cube.withhold(("sum", oslo)), cube.withhold(("0 * sum",)), cube.opened(),
                cube.bounds((0, 0), (0, 0), oslo), cube.forced((0, 0), (0, 0)), texts.cube_text(cube),
                texts.drill(cube, ("town", "month")), texts.drill(cube, ("town", "month"), open_too=False), tuple(cube))

    def test_cubes(self):
        cube = started()
        told = [cube.watch("sum"), cube.watch("sum where town in north/oslo"), cube.mark(), cube.store((ALL,))]
        told.append(self.answers(cube))
        before = copy.deepcopy(told)
        cells = copy.deepcopy(cube.dimensions())
        other = started((NORTH, SOUTH, ALL))
        handed_in = contents(other)
        told.append(cube.insert(((0, 5), (3, -1))))
        told.append(cube.merge(other))
        told.append(cube.drop((NORTH, SOUTH)))
        told.append(cube.unwatch("sum"))
        told.append(cube.back(0))
        # What was handed out has not changed with the cube, nor has what was handed in.
        self.assertEqual(told[:len(before)], before)
        self.assertEqual(cube.dimensions(), cells)
        self.assertEqual(contents(other), handed_in)
        for answer in told:
            self.assertTrue(is_plain(answer), answer)

    def test_answers_change_nothing(self):
        cube = started()
        cube.watch("sum")
        cube.mark()
        before = contents(cube)
        first = self.answers(cube)
        self.assertEqual(self.answers(cube), first)
        self.assertEqual(contents(cube), before)
        self.assertEqual(cube.dimensions(), EXAMPLE)
        self.assertEqual(tuple(cube), REGIONS)

    def test_answers_are_tuples(self):
        for space in sample_spaces():
            for grouping in groupings.all_groupings(space):
                self.assertIs(type(grouping), tuple)
                family = groupings.groups(space, grouping)
                found = [family, groupings.group_numbers(space, grouping), groupings.in_order(space, family),
                         groupings.meet(grouping, grouping), groupings.join(grouping, grouping),
                         groupings.group_of(space, grouping, 0), groupings.grouping_of(family[0]),
                         groupings.group_cells(space, family[0]), groupings.indicator(space, family[0]), *family]
                for at, level in enumerate(grouping):
                    members = space.members(at, level)
                    found += [members, space.leaves_of(at, members[0])]
                self.assertEqual({type(told) for told in found}, {tuple})
                self.assertIs(type(groupings.room(space, grouping)), int)
            self.assertIs(type(groupings.all_groupings(space)), tuple)


class SourceTest(unittest.TestCase):
    def test_folder_contains_only_plain_files(self):
        for path in PACKAGE.rglob("*"):
            if "__pycache__" not in path.parts and path.is_file():
                self.assertEqual(path.suffix, ".py", path)
                self.assertEqual(path.name, path.name.lower())

    def test_sizes_and_characters(self):
        for path in files():
            with self.subTest(path.name):
                text = path.read_text()
                self.assertTrue(all(sign == "\n" or " " <= sign <= "~" for sign in text))
                lines = text.splitlines()
                self.assertLessEqual(len(lines), 399)
                self.assertLessEqual(max(map(len, lines), default=0), 120)

    def test_functions_are_short(self):
        for name, tree in trees():
            for node in ast.walk(tree):
                if isinstance(node, ast.FunctionDef):
                    self.assertLessEqual(node.end_lineno - node.lineno + 1, 40, (name, node.name))

    def test_nothing_from_outside_is_imported(self):
        for name, tree in trees():
            for node in ast.walk(tree):
                self.assertNotIsInstance(node, ast.Import, name)
                if isinstance(node, ast.ImportFrom) and not node.module.startswith("cubesums."):
                    self.assertIn(node.module, LIBRARY, name)
                    self.assertLessEqual({found.name for found in node.names}, LIBRARY[node.module], name)

    def test_only_builtins_of_the_subset(self):
        for name, tree in trees():
            for node in ast.walk(tree):
                if isinstance(node, ast.Name):
                    self.assertNotIn(node.id, OTHER_BUILTINS, name)

    def test_no_floats_and_no_percent_sign_in_strings(self):
        for name, tree in trees():
            for node in ast.walk(tree):
                self.assertNotIsInstance(node, ast.Div, name)
                if isinstance(node, ast.Constant):
                    self.assertNotIsInstance(node.value, float, name)
                    self.assertFalse(isinstance(node.value, str) and "%" in node.value, name)


if __name__ == "__main__":
    unittest.main()
