"""Texts of cubes, what is refused as one, and drill-down: points 73 to 76."""

import random
import re
import unittest

from cubesums.cube import Cube
from cubesums.errors import BadDimensions, BadGrouping, FaultyText, NoSuchName, NotDetermined, SumsDiffer
from cubesums.facts import as_facts
from cubesums.groupings import all_groupings, groups
from cubesums.questions import group_expression
from cubesums.realize import realize
from cubesums.space import Space
from cubesums.texts import cube_of, cube_text, drill
from cubes import ALL, JUNE, LIMIT, MAY, NORTH, REGIONS, SOUTH, WIDE, contents, started
from exact import drawn_amounts, drawn_families
from samples import CHAIN, EXAMPLE, MONTH, NEAR, TOWN, all_groups, belongs, example, level, sample_spaces

HEAD = "cube\ndimension town north/bergen north/oslo south/rome\ndimension month june may\n"
SUMS = "sum * * 45\nsum * may 35\nsum north * 30\nsum north june -10\nsum south/rome may -5\n"
WIDE_HEAD = "cube\ndimension a b c d e f g h\ndimension i j k l m n o\n"


def dimensions_told(lines):
    """The dimensions that lines tell, or None."""
    found = tuple((words[1], tuple(words[2:])) for words in (line.split(" ") for line in lines) if len(words) > 1)
    if len(found) < len(lines) or any(line.split(" ")[0] != "dimension" for line in lines):
        return None
    try:
        return Space(found).dimensions
    except BadDimensions:
        return None


def sums_told(dimensions, lines):
    """The groups and sums that lines tell, or None."""
    written = {" ".join(path or "*" for path in group): group for group in all_groups(Space(dimensions))}
    places = {text: place for place, text in enumerate(written)}
    found = []
    for line in lines:
        match = re.fullmatch("sum (.*) (0|-?[1-9][0-9]*)", line)
        if not match or match[1] not in written or len(match[2]) > 30 or not -LIMIT <= int(match[2]) <= LIMIT:
            return None
        found.append((places[match[1]], written[match[1]], int(match[2])))
    numbers = [place for place, _, _ in found]
    if numbers != sorted(set(numbers)) or len(found) > 40:
        return None
    return [(group, total) for _, group, total in found]


def continues(lines):
    """Tell whether a text of a cube begins with these lines."""
    if lines[:1] != ["cube"]:
        return lines == []
    many = 1
    while many < len(lines) and lines[many].split(" ")[0] == "dimension":
        many += 1
    if len(lines) == 1:
        return True
    dimensions = dimensions_told(lines[1:many]) if many > 1 else None
    return dimensions is not None and sums_told(dimensions, lines[many:]) is not None


def fault(text):
    """Point 74: the field that a text is refused with, or None."""
    if not text.endswith("\n"):
        return text.count("\n") + 1
    lines = text[:-1].split("\n")
    for number in range(1, len(lines) + 1):
        if not continues(lines[:number]):
            return number
    return 2 if lines == ["cube"] else None


def have_facts(text):
    """Tell whether facts have the sums of a text of a cube."""
    lines = text[:-1].split("\n")
    many = 1 + sum(line.startswith("dimension ") for line in lines)
    dimensions = dimensions_told(lines[1:many])
    told = sums_told(dimensions, lines[many:])
    family = tuple(group for group, _ in told)
    return realize(Space(dimensions), family, tuple(total for _, total in told))[0] == "facts"


class TextCase(unittest.TestCase):
    def faulty(self, text, at):
        self.assertEqual(fault(text), at, text)
        with self.assertRaises(FaultyText) as caught:
            cube_of(text)
        self.assertEqual(caught.exception.at, at)

    def read(self, text):
        """Check that a text is read as the cube of which it is the text."""
        cube = cube_of(text)
        self.assertIs(type(cube), Cube)
        self.assertEqual(cube_text(cube), text)
        self.assertEqual((cube.watched(), cube.marks()), ((), 0))
        return cube

    def check(self, text):
        """Compare any text with what the points say of it."""
        at = fault(text)
        if at is not None:
            self.faulty(text, at)
        elif have_facts(text):
            self.read(text)
        else:
            with self.assertRaises(SumsDiffer):
                cube_of(text)
        return at


class CubeTextTest(TextCase):
    def test_by_hand(self):
        self.assertEqual(cube_text(started()), HEAD + "sum north * 30\nsum south * 15\n")
        self.assertEqual(cube_text(Cube(EXAMPLE, ())), HEAD)
        cube = Cube(EXAMPLE, (("north/oslo", "may"), ALL, MAY, NORTH, ("south", "june")))
        cube.insert(((3, -20), (1, 10 ** 18), (4, 0)))
        most = LIMIT - 20
        self.assertEqual(cube_text(cube), HEAD + f"sum * * {most}\nsum * may {most}\nsum north * {most}\n"
                         "sum south june 0\nsum north/oslo may -20\n")
        self.assertEqual(cube_text(Cube((MONTH,), (("may",), ("",)))),
                         "cube\ndimension month june may\nsum * 0\nsum may 0\n")

    def test_watched_questions_and_marks_are_not_written(self):
        cube = started()
        text = cube_text(cube)
        cube.watch("sum")
        cube.mark()
        before = contents(cube)
        self.assertEqual(cube_text(cube), text)
        self.assertEqual(contents(cube), before)

    def test_there_and_back(self):
        for space in sample_spaces():
            for at, family in enumerate(drawn_families(space, 5, 40, 8)):
                cube = Cube(space.dimensions, family)
                cube.insert(as_facts(drawn_amounts(space, at, 10 ** (3 * at))))
                cube.watch("sum")
                cube.mark()
                found = self.read(cube_text(cube))
                self.assertEqual((found.dimensions(), found.stored()), (cube.dimensions(), cube.stored()))


class CubeOfTest(TextCase):
    def test_by_hand(self):
        cube = self.read(HEAD + SUMS)
        self.assertEqual(cube.dimensions(), EXAMPLE)
        self.assertEqual(cube.stored(), ((ALL, 45), (MAY, 35), (NORTH, 30), (("north", "june"), -10),
                                         (("south/rome", "may"), -5)))
        self.assertEqual(self.read(HEAD).stored(), ())
        cube.insert(((1, 1),))
        self.assertEqual(cube.stored()[0], (ALL, 46))

    def test_without_the_last_line_feed(self):
        self.faulty("", 1)
        self.faulty("cube", 1)
        self.faulty("x", 1)
        self.faulty(HEAD[:-1], 3)
        self.faulty((HEAD + SUMS)[:-1], 8)
        self.faulty(HEAD + SUMS + "sum", 9)
        self.faulty(HEAD + "\n\n ", 6)
        # This comes ahead of a fault in an earlier line.
        self.faulty("tube\n" + HEAD + SUMS[:-1], 9)

    def test_first_line(self):
        for text in ("\n", "\n\n", " cube\n", "cube \n", "Cube\n", "cubes\n", "cube cube\n",
                     "dimension month june may\n",
                     "sum * * 4\n", "\n" + HEAD, HEAD.replace("cube", "cub") + SUMS):
            self.faulty(text, 1)

    def test_text_that_is_not_at_its_end(self):
        self.faulty("cube\n", 2)

    def test_second_line(self):
        for line in ("", "cube", "sum * * 4", "sum", "dimension", "dimension ", "dimension month",
                     "dimension month june",
                     "dimension  month june may", "dimension month june may ", "dimension month  june may",
                     " dimension month june may", "dimension month may june", "dimension month june june",
                     "dimension sum june may", "dimension Month june may", "dimension month june ma/y",
                     "dimension month june/a/b/c may/a/b/c", "dimension monthmont june may", "Dimension month june may",
                     "dimension month june where", "dimension june may", "dimensions month june may",
                     "dimension month a b c d e f g h i", "dimension month june *", "dimension month /june /may"):
            self.faulty("cube\n" + line + "\n", 2)
            self.faulty("cube\n" + line + "\nsum * 4\n", 2)
            self.faulty("cube\ndimension year a b\n" + line + "\n", 3)

    def test_dimensions_together(self):
        self.faulty("cube\ndimension month june may\ndimension month a b\n", 3)
        self.faulty("cube\n" + "".join(f"dimension {name} a b\n" for name in "wxyz"), 5)
        self.read("cube\n" + "".join(f"dimension {name} a b\n" for name in "wxy"))
        self.read("cube\ndimension w a b c d e f g h\ndimension v a b c d e f\n")
        self.faulty("cube\ndimension w a b c d e f g h\ndimension v a b c d e f g\n", 3)
        self.faulty("cube\ndimension w a b c d e f g h\ndimension v a b c d e f\ndimension u a b\n", 4)
        self.read("cube\ndimension w a b c d\ndimension v a b c d\ndimension u a b c\n")
        self.faulty("cube\ndimension w a b c d\ndimension v a b c d\ndimension u a b c d\n", 4)

    def test_dimensions_behind_sums(self):
        self.faulty("cube\ndimension month june may\nsum may 4\ndimension year a b\n", 4)
        self.faulty("cube\ndimension month june may\n\ndimension year a b\n", 3)

    def test_lines_that_are_no_sums(self):
        for line in ("", " ", "sum", "sum ", "sum 4", "sum * 4", "sum * * * 4", "sum * *", "sum * * ", "sum  * 4",
                     "sum *  4",
                     "sum north  4", " sum * * 4", "sum * * 4 ", "sum  * * 4", "sum * *  4", "Sum * * 4", "sums * * 4",
                     "sum east * 4", "sum * july 4", "sum north/ * 4", "sum /north * 4", "sum may north 4",
                     "sum north may",
                     "cube", "dimension", "dimension year", "sum ** * 4", "sum * * 4 4", "sum oslo * 4"):
            self.faulty(HEAD + line + "\n", 4)
            self.faulty(HEAD + "sum * * 4\n" + line + "\nsum north * 3\n", 5)

    def test_numbers(self):
        for number in ("0", "1", "-1", "10", str(LIMIT), str(-LIMIT), str(LIMIT - 1), "999999999999999999"):
            cube = self.read(HEAD + f"sum * * {number}\n")
            self.assertEqual(cube.stored(), ((ALL, int(number)),))
        for number in ("-0", "00", "01", "-01", "+1", "1.0", "--1", "-", "", "1e3", "one", "0x1", "1_000",
                     str(LIMIT + 1),
                       str(-LIMIT - 1), str(10 * LIMIT), "9" * 19, "1" + "0" * 5000, "-" + "1" * 5000, "0" * 20, "*"):
            self.faulty(HEAD + f"sum * * {number}\n", 4)
            self.faulty(HEAD + f"sum * * 1\nsum * june {number}\n", 5)

    def test_order_of_the_groups(self):
        lines = (HEAD + SUMS).splitlines(keepends=True)
        for one in range(3, 8):
            for two in range(one + 1, 8):
                changed = list(lines)
                changed[one], changed[two] = changed[two], changed[one]
                self.faulty("".join(changed), one + 2)
        # Members are ordered as their leaves are, paths of different levels by their groupings.
        head = "cube\ndimension near a/b/z a/bc/a ab/a/a ab/c/a ab/c/b\n"
        self.read(head + "sum * 1\nsum a 1\nsum ab 0\nsum a/b 4\nsum a/bc -3\nsum ab/a 0\n")
        self.faulty(head + "sum a/b 1\nsum ab 0\n", 4)
        self.faulty(head + "sum ab 1\nsum a 0\n", 4)

    def test_each_line_left_out_put_in_twice_and_exchanged(self):
        lines = (HEAD + SUMS).splitlines(keepends=True)
        told = set()
        for at in range(len(lines)):
            told.add(self.check("".join(lines[:at] + lines[at + 1:])))
            told.add(self.check("".join(lines[:at + 1] + lines[at:])))
            told.add(self.check("".join(lines[:at] + [lines[at][:-1] + lines[at]] + lines[at + 1:])))
            for other in range(at):
                changed = list(lines)
                changed[at], changed[other] = changed[other], changed[at]
                told.add(self.check("".join(changed)))
        self.assertEqual(told, {None, 1, 2, 3, 4, 5, 6, 7, 8, 9})

    def test_one_word_changed(self):
        lines = (HEAD + SUMS).splitlines()
        words = ("", "*", "cube", "dimension", "sum", "town", "month", "may", "north", "south/rome", "a", "in", "-0",
                     "7",
                 "45", "x/y/z/u", "sum sum", str(LIMIT + 1), "north june", "Z", "january", "june")
        told = set()
        for at, line in enumerate(lines):
            for place in range(len(line.split(" "))):
                for word in words:
                    changed = line.split(" ")
                    changed[place] = word
                    text = "\n".join(lines[:at] + [" ".join(changed)] + lines[at + 1:]) + "\n"
                    told.add(self.check(text))
                changed = line.split(" ")
                del changed[place]
                told.add(self.check("\n".join(lines[:at] + [" ".join(changed)] + lines[at + 1:]) + "\n"))
        self.assertEqual(told, {None, 1, 2, 3, 4, 5, 6, 7, 8})

    def test_one_character_changed(self):
        draw = random.Random(1)
        text = HEAD + SUMS
        for _ in range(600):
            at = draw.randrange(len(text))
            sign = draw.choice(" \n*/-0159abnsz~")
            self.check(text[:at] + sign + text[at + draw.randint(0, 2):])

    def test_forty_sums_and_more(self):
        every = all_groups(Space(WIDE))
        for many in (39, 40):
            cube = Cube(WIDE, tuple(every[-many:]))
            cube.insert(as_facts(drawn_amounts(Space(WIDE), many)))
            self.assertEqual(len(self.read(cube_text(cube))), many)
        lines = [f"sum {one or '*'} {two or '*'} 0\n" for one, two in every]
        self.faulty(WIDE_HEAD + "".join(lines[:41]), 44)
        self.faulty(WIDE_HEAD + "".join(lines), 44)
        self.faulty(WIDE_HEAD + "".join(lines[:40]) + lines[0], 44)
        self.faulty(WIDE_HEAD + "".join(lines[:40]) + "sum\n", 44)
        self.faulty(WIDE_HEAD + "".join(lines[:20]) + "\n" + "".join(lines[20:]), 24)

    def test_sums_that_no_facts_have(self):
        for text in (HEAD + "sum * * 45\nsum north * 30\nsum south * 14\n",
                     HEAD + "sum south * 1\nsum south/rome * 2\n",
                     HEAD + "sum * june 1\nsum * may 1\nsum north * 1\nsum south * 0\n"):
            self.assertIsNone(fault(text))
            with self.assertRaises(SumsDiffer):
                cube_of(text)
            # A faulty line comes ahead of this.
            self.faulty(text + "sum\n", text.count("\n") + 1)
            self.faulty(text[:-1], text.count("\n"))

    def test_sums_that_only_fractions_have(self):
        head = "cube\n" + "".join(f"dimension {name} x y\n" for name in "abc")
        known = "sum x x x 0\nsum x y y 0\nsum y x y 0\nsum y y x 0\n"
        self.read(head + "sum * * x 1\nsum * x * 1\nsum x * * 0\n" + known)
        with self.assertRaises(SumsDiffer):
            cube_of(head + "sum * * x 1\nsum * x * 0\nsum x * * 0\n" + known)

    def test_large_sums_that_add_up(self):
        self.read(HEAD + f"sum * * 0\nsum north * {LIMIT}\nsum south * {-LIMIT}\n")
        with self.assertRaises(SumsDiffer):
            cube_of(HEAD + f"sum * * 1\nsum north * {LIMIT}\nsum south * {-LIMIT}\n")
        cube = self.read(HEAD + f"sum north june {LIMIT}\nsum north may {LIMIT}\n")
        self.assertEqual(cube.value("sum where town in north"), 2 * LIMIT)


def visited(space, names):
    """Point 76: the groups that are visited, by going through all groups of the last grouping."""
    depths = [0] * len(space.dimensions)
    groupings = [tuple(depths)]
    for name in names:
        depths[[known for known, _ in space.dimensions].index(name)] += 1
        groupings.append(tuple(depths))
    found = []
    for group in groups(space, groupings[-1]):
        for grouping in groupings:
            above = tuple("/".join(path.split("/")[:many]) if many else "" for path, many in zip(group, grouping))
            found.append(above)
    return groupings, found


class DrillTest(unittest.TestCase):
    def check_order(self, space, names, told):
        """Each group stands behind the one above it, with all groups below it directly behind it, in order."""
        groupings, above = visited(space, names)
        self.assertEqual(sorted(told), sorted(set(above)))
        self.assertEqual(len(told), len(set(told)))
        self.assertEqual(told[0], ("",) * len(space.dimensions))
        way = []
        for group in told:
            depth = groupings.index(tuple(level(path) for path in group))
            self.assertLessEqual(depth, len(way))
            way = way[:depth] + [group]
            if depth:
                self.assertTrue(all(belongs(path, other) for path, other in zip(group, way[depth - 1])))
        order = all_groups(space)
        for grouping in groupings[1:]:
            same = [group for group in told if tuple(level(path) for path in group) == grouping]
            for one, two in zip(same, same[1:]):
                # Neighbours of one grouping stand in the order of the member that changes first on their ways.
                first = [at for at, (x, y) in enumerate(zip(self.way(space, names, one), self.way(space, names, two)))
                         if x != y][0]
                ways = self.way(space, names, one)[first], self.way(space, names, two)[first]
                self.assertLess(order.index(ways[0]), order.index(ways[1]))

    def way(self, space, names, group):
        """The groups from that of all cells down to a group."""
        groupings, _ = visited(space, names)
        grouping = tuple(level(path) for path in group)
        return [tuple("/".join(path.split("/")[:many]) if many else "" for path, many in zip(group, one))
                for one in groupings[:groupings.index(grouping) + 1]]

    def test_drawn_names(self):
        draw = random.Random(3)
        for space in sample_spaces():
            every = [name for at, (name, _) in enumerate(space.dimensions) for _ in range(space.depth(at))]
            for seed, family in enumerate(drawn_families(space, 3, 20, 3)):
                cube = Cube(space.dimensions, family)
                cube.insert(as_facts(drawn_amounts(space, seed)))
                before = contents(cube)
                names = tuple(draw.sample(every, draw.randint(0, min(len(every), 4))))
                found = drill(cube, names)
                self.check_order(space, names, [group for group, _ in found])
                for group, state in found:
                    try:
                        expected = cube.value(group_expression(space, group))
                    except NotDetermined:
                        expected = None
                    self.assertEqual(state, expected)
                self.assertEqual(drill(cube, names, open_too=True), found)
                self.assertEqual(drill(cube, names, open_too=False),
                                 tuple(pair for pair in found if pair[1] is not None))
                self.assertEqual(contents(cube), before)

    def test_no_name(self):
        self.assertEqual(drill(started(), ()), ((ALL, 45),))
        self.assertEqual(drill(started((NORTH,)), ()), ((ALL, None),))
        self.assertEqual(drill(started((NORTH,)), (), open_too=False), ())

    def test_one_name_as_often_as_its_dimension_is_deep(self):
        cube = started()
        self.assertEqual(drill(cube, ("town",)), ((ALL, 45), (NORTH, 30), (SOUTH, 15)))
        self.assertEqual(drill(cube, ("town", "town")),
                         ((ALL, 45), (NORTH, 30), (("north/bergen", ""), None), (("north/oslo", ""), None), (SOUTH, 15),
                          (("south/rome", ""), 15)))
        self.assertEqual(drill(cube, ("month",)), ((ALL, 45), (JUNE, None), (MAY, None)))
        for names in (("town",) * 3, ("month",) * 2, ("town",) * 7):
            with self.assertRaises(BadGrouping):
                drill(cube, names)

    def test_several_names_in_turn(self):
        cube = started(REGIONS + (("north", "may"),))
        self.assertEqual(drill(cube, ("town", "month", "town")),
                         ((ALL, 45), (NORTH, 30),
                          (("north", "june"), 10), (("north/bergen", "june"), None), (("north/oslo", "june"), None),
                          (("north", "may"), 20), (("north/bergen", "may"), None), (("north/oslo", "may"), None),
                          (SOUTH, 15), (("south", "june"), None), (("south/rome", "june"), None),
                          (("south", "may"), None), (("south/rome", "may"), None)))
        self.assertEqual(drill(cube, ("town", "month", "town"), open_too=False),
                         ((ALL, 45), (NORTH, 30), (("north", "june"), 10), (("north", "may"), 20), (SOUTH, 15)))
        self.assertEqual(drill(cube, ("month", "town")),
                         ((ALL, 45), (JUNE, None), (("north", "june"), 10), (("south", "june"), None),
                          (MAY, None), (("north", "may"), 20), (("south", "may"), None)))

    def test_groups_below_an_open_group_are_told(self):
        cube = started((("north/oslo", "may"),))
        self.assertEqual(drill(cube, ("month", "town", "town"), open_too=False), ((("north/oslo", "may"), 20),))

    def test_members_of_a_level_with_one_leaf_each(self):
        cube = Cube((CHAIN, MONTH), (("a", ""),))
        self.assertEqual([group for group, _ in drill(cube, ("chain",) * 3)],
                         [ALL, ("a", ""), ("a/b", ""), ("a/b/c", ""), ("d", ""), ("d/e", ""), ("d/e/f", "")])
        with self.assertRaises(BadGrouping):
            drill(cube, ("chain",) * 4)
        cube = Cube((NEAR,), ())
        self.assertEqual([group for group, _ in drill(cube, ("near",) * 2)],
                         [("",), ("a",), ("a/b",), ("a/bc",), ("ab",), ("ab/a",), ("ab/c",)])

    def test_all_levels_of_many_dimensions(self):
        leaves = ("a/a/a", "a/a/b", "a/b/a", "b/a/a")
        space = Space((("x", leaves), ("y", leaves), ("z", ("a/a/a", "a/b/a", "b/b/b"))))
        cube = Cube(space.dimensions, groups(space, (1, 1, 1)))
        found = drill(cube, ("x", "y", "z") * 3)
        self.assertEqual(len({group for group, _ in found}), len(found))
        self.assertEqual([group for group, _ in found][-1], ("b/a/a", "b/a/a", "b/b/b"))
        self.assertEqual(len([group for group, _ in found if group in groups(space, (3, 3, 3))]), 48)
        self.assertEqual(found[0], (("", "", ""), 0))

    def test_names_that_no_dimension_has(self):
        cube = started()
        for names, name in ((("year",), "year"), (("town", "year"), "year"), (("",), ""), (("towns", "year"), "towns"),
                            (("Town",), "Town"), (("town", "town", "town", "year"), "year"), (("north",), "north"),
                            (("month", "month", "month", "x", "y"), "x")):
            for open_too in (True, False):
                with self.assertRaises(NoSuchName) as caught:
                    drill(cube, names, open_too=open_too)
                self.assertEqual(caught.exception.name, name)

    def test_open_too_is_passed_by_keyword(self):
        with self.assertRaises(TypeError):
            drill(started(), (), False)

    def test_groupings_of_other_dimensions(self):
        cube = Cube((MONTH, TOWN), (("", "north"), ("june", "")))
        cube.insert(((0, 4), (4, 3)))
        self.assertEqual(drill(cube, ("town", "month"), open_too=False), ((("", "north"), 7),))
        self.assertEqual(len(drill(cube, ("town", "town", "month"))), 1 + 2 + 3 + 6)
        self.assertEqual(len(all_groupings(example())), 6)


if __name__ == "__main__":
    unittest.main()
