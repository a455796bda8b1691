"""Words, paths, dimensions, levels, members, leaves and cells: points 4 to 8."""

import unittest

from cubesums.errors import BadDimensions, CubeError, NoSuchCell, NoSuchName
from cubesums.space import Space, is_word
from samples import EXAMPLE, MONTH, NEAR, TOWN, belongs, depth_of, example, members_by_hand
from samples import sample_spaces

LETTERS = "abcdefghijklmnopqrstuvwxyz"
STRANGE = [chr(code) for code in range(32, 127) if chr(code) not in LETTERS] + ["\n"]
FAULTY_WORDS = ["", "abcdefghi", "sum", "where", "in", "and", "A", "a b", "x1", "a-b", "a_b", "*", "a\n", " a"]


def flat(many):
    """Leaves of depth 1, as many as told."""
    return tuple(LETTERS[:many])


def dimension(*leaves):
    """Dimensions that consist of one dimension with these leaves."""
    return (("dim", leaves),)


class WordTest(unittest.TestCase):
    def test_lengths(self):
        text = "abcdefghij"
        for many in range(len(text) + 1):
            with self.subTest(many):
                self.assertIs(is_word(text[:many]), 1 <= many <= 8)

    def test_each_letter(self):
        for letter in LETTERS:
            self.assertIs(is_word(letter), True)
            self.assertIs(is_word("b" + letter + "b"), True)

    def test_kept_back(self):
        for text in ("sum", "where", "in", "and"):
            self.assertIs(is_word(text), False)

    def test_near_kept_back(self):
        for text in ("sums", "su", "wher", "i", "inn", "nd", "sand", "sumin", "or", "not", "ni"):
            self.assertIs(is_word(text), True, text)

    def test_other_character_anywhere(self):
        for sign in STRANGE:
            for text in (sign, sign + "bc", "b" + sign + "c", "bc" + sign):
                self.assertIs(is_word(text), False, repr(text))

    def test_path_is_no_word(self):
        self.assertIs(is_word("north/oslo"), False)


class DimensionTest(unittest.TestCase):
    def refused(self, dimensions):
        with self.assertRaises(BadDimensions) as caught:
            Space(dimensions)
        self.assertIs(type(caught.exception), BadDimensions)
        self.assertIsInstance(caught.exception, CubeError)

    def taken(self, dimensions, many):
        space = Space(dimensions)
        self.assertEqual(space.dimensions, dimensions)
        self.assertEqual(space.many, many)

    def test_number_of_dimensions(self):
        names = ("one", "two", "three", "four", "five")
        self.refused(())
        for many in range(1, 6):
            dimensions = tuple((name, flat(2)) for name in names[:many])
            with self.subTest(many):
                if many <= 3:
                    self.taken(dimensions, 2 ** many)
                else:
                    self.refused(dimensions)

    def test_number_of_leaves(self):
        for many in range(11):
            with self.subTest(many):
                if 2 <= many <= 8:
                    self.taken((("dim", flat(many)),), many)
                else:
                    self.refused((("dim", flat(many)),))

    def test_number_of_leaves_in_a_later_dimension(self):
        for many in (0, 1, 9):
            self.refused((MONTH, ("dim", flat(many))))
        for many in (2, 8):
            self.taken((MONTH, ("dim", flat(many))), 2 * many)

    def test_depths(self):
        words = ["a", "b", "c", "d", "e"]
        for many in range(1, 6):
            start = "/".join(words[:many - 1] + [""])
            leaves = (start + "x", start + "y")
            with self.subTest(many):
                if many <= 3:
                    self.taken(dimension(*leaves), 2)
                    self.assertEqual(Space(dimension(*leaves)).depth(0), many)
                else:
                    self.refused(dimension(*leaves))

    def test_leaves_of_unlike_depth(self):
        self.refused(dimension("a", "b/c"))
        self.refused(dimension("a/b", "c"))
        self.refused(dimension("a/b", "a/c/d"))
        self.refused(dimension("a/b/c", "d/e"))
        self.refused(dimension("a/b", "a/c", "b"))
        self.refused(dimension("a", "a/b"))

    def test_leaves_out_of_order(self):
        self.refused(dimension("b", "a"))
        self.refused(dimension("a", "c", "b"))
        self.refused(dimension("b", "a", "c"))
        self.refused(dimension("b/a", "a/b"))
        self.refused(dimension("a/b", "a/a"))

    def test_leaf_twice(self):
        self.refused(dimension("a", "a"))
        self.refused(dimension("a", "b", "b"))
        self.refused(dimension("a", "b", "a"))
        self.refused(dimension("x/a", "x/a"))

    def test_order_is_that_of_strings(self):
        self.taken(dimension("a/z", "ab/a"), 2)
        self.refused(dimension("ab/a", "a/z"))
        self.taken(dimension("a", "ab", "abc", "b"), 4)
        self.refused(dimension("b", "ab"))

    def test_same_last_word_below_different_members(self):
        self.taken(dimension("a/x", "b/x"), 2)

    def test_empty_path_is_no_leaf(self):
        self.refused(dimension("", "a"))
        self.refused(dimension("", ""))
        self.refused(dimension("", "", "a"))

    def test_empty_words(self):
        self.refused(dimension("/a", "/b"))
        self.refused(dimension("a/", "b/"))
        self.refused(dimension("a//b", "a//c"))
        self.refused(dimension("/", "a/b"))
        self.refused(dimension("//", "a/b/c"))
        self.refused(dimension("a/", "a/b"))
        self.refused(dimension("a/b/", "a/b/c"))

    def test_faulty_words_in_leaves(self):
        for faulty in FAULTY_WORDS:
            for form in ("{}", "m/{}", "{}/m", "k/{}/m", "k/m/{}", "{}/k/m"):
                leaf = form.format(faulty)
                other = form.format("m")
                with self.subTest(leaf):
                    self.refused(dimension(*sorted((leaf, other))))

    def test_faulty_names(self):
        for faulty in FAULTY_WORDS + ["a/b"]:
            with self.subTest(faulty):
                self.refused(((faulty, flat(2)),))
                self.refused((MONTH, (faulty, flat(2))))
                self.refused(((faulty, flat(2)), MONTH, TOWN))

    def test_longest_and_shortest_words(self):
        self.taken((("abcdefgh", ("abcdefgh", "b")),), 2)
        self.refused((("abcdefghi", ("a", "b")),))
        self.refused((("dim", ("abcdefghi", "b")),))
        self.taken((("d", ("abcdefgh/abcdefgh/abcdefgh", "b/b/b")),), 2)
        self.refused((("d", ("abcdefgh/abcdefgh/abcdefghi", "b/b/b")),))

    def test_name_twice(self):
        self.refused((MONTH, MONTH))
        self.refused((("dim", flat(2)), ("dim", flat(3))))
        self.refused((MONTH, TOWN, ("month", flat(2))))
        self.refused((TOWN, MONTH, ("month", flat(2))))

    def test_dimensions_may_share_leaves_and_words(self):
        self.taken((("one", flat(2)), ("two", flat(2))), 4)
        self.taken((("a", ("a", "b")), ("b", ("a", "b"))), 4)

    def test_products(self):
        for counts, many in (((6, 8), 48), ((8, 6), 48), ((2, 3, 8), 48), ((4, 4, 3), 48), ((5, 3, 3), 45)):
            names = ("one", "two", "three")
            with self.subTest(counts):
                self.taken(tuple((name, flat(count)) for name, count in zip(names, counts)), many)
        for counts in ((7, 7), (8, 7), (8, 8), (5, 5, 2), (7, 7, 1), (3, 4, 5), (8, 8, 8), (2, 5, 5), (4, 4, 4)):
            names = ("one", "two", "three")
            with self.subTest(counts):
                self.refused(tuple((name, flat(count)) for name, count in zip(names, counts)))

    def test_fault_in_any_dimension(self):
        for faulty in (("dim", ("b", "a")), ("dim", ("a",)), ("sum", ("a", "b")), ("dim", ("a", "b/c"))):
            self.refused((faulty,))
            self.refused((faulty, MONTH))
            self.refused((MONTH, faulty))
            self.refused((MONTH, TOWN, faulty))

    def test_fields(self):
        space = example()
        self.assertEqual(space.dimensions, EXAMPLE)
        self.assertEqual(space.many, 6)
        self.assertIs(type(space.dimensions), tuple)


class MemberTest(unittest.TestCase):
    def test_example(self):
        space = example()
        self.assertEqual(space.depth(0), 2)
        self.assertEqual(space.depth(1), 1)
        self.assertEqual(space.members(0, 0), ("",))
        self.assertEqual(space.members(0, 1), ("north", "south"))
        self.assertEqual(space.members(0, 2), ("north/bergen", "north/oslo", "south/rome"))
        self.assertEqual(space.members(1, 0), ("",))
        self.assertEqual(space.members(1, 1), ("june", "may"))

    def test_every_level(self):
        for space in sample_spaces():
            for at, (name, leaves) in enumerate(space.dimensions):
                self.assertEqual(space.depth(at), depth_of(leaves))
                for level in range(space.depth(at) + 1):
                    with self.subTest(name=name, level=level):
                        self.assertEqual(space.members(at, level), members_by_hand(leaves, level))
                self.assertEqual(space.members(at, 0), ("",))
                self.assertEqual(space.members(at, space.depth(at)), leaves)

    def test_members_with_the_same_leaves(self):
        space = Space(dimension("a/b/c", "d/e/f"))
        self.assertEqual(space.members(0, 1), ("a", "d"))
        self.assertEqual(space.members(0, 2), ("a/b", "d/e"))
        self.assertEqual(space.leaves_of(0, "a"), (0,))
        self.assertEqual(space.leaves_of(0, "a/b"), (0,))
        self.assertEqual(space.leaves_of(0, "a/b/c"), (0,))

    def test_one_member_above_all_leaves(self):
        space = Space(dimension("a/b/c", "a/b/d"))
        self.assertEqual([space.members(0, level) for level in range(3)], [("",), ("a",), ("a/b",)])
        self.assertEqual(space.leaves_of(0, "a/b"), (0, 1))

    def test_order_of_members(self):
        space = Space((NEAR,))
        self.assertEqual(space.members(0, 1), ("a", "ab"))
        self.assertEqual(space.members(0, 2), ("a/b", "a/bc", "ab/a", "ab/c"))
        self.assertEqual(space.leaves_of(0, "a"), (0, 1))
        self.assertEqual(space.leaves_of(0, "ab"), (2, 3, 4))

    def test_leaves_of_every_member(self):
        for space in sample_spaces():
            for at, (_, leaves) in enumerate(space.dimensions):
                for level in range(space.depth(at) + 1):
                    for path in space.members(at, level):
                        expected = tuple(k for k, leaf in enumerate(leaves) if belongs(leaf, path))
                        self.assertEqual(space.leaves_of(at, path), expected)

    def test_empty_path_has_all_leaves(self):
        self.assertEqual(example().leaves_of(0, ""), (0, 1, 2))
        self.assertEqual(example().leaves_of(1, ""), (0, 1))

    def test_path_of_no_member(self):
        space = example()
        strange = ["north/", "/", "/north", "nort", "norths", "oslo", "north/rome", "north/oslo/x", "may", "south/oslo",
                   "North", " north", "north ", "sum", "town", "*", "a b", "north//oslo", "\n", "north/oslo\n"]
        for path in strange:
            with self.subTest(path):
                with self.assertRaises(NoSuchName) as caught:
                    space.leaves_of(0, path)
                self.assertEqual(caught.exception.name, path)
        with self.assertRaises(NoSuchName) as caught:
            space.leaves_of(1, "north")
        self.assertEqual(caught.exception.name, "north")

    def test_dimension_at(self):
        for space in sample_spaces():
            for at, (name, _) in enumerate(space.dimensions):
                self.assertEqual(space.dimension_at(name), at)

    def test_name_that_no_dimension_has(self):
        for name in ("", "region", "Town", "towns", "tow", "town ", "may", "north", "sum", "a/b", "\n", "0"):
            with self.subTest(name):
                with self.assertRaises(NoSuchName) as caught:
                    example().dimension_at(name)
                self.assertEqual(caught.exception.name, name)


class CellTest(unittest.TestCase):
    def test_example(self):
        space = example()
        self.assertEqual(space.coordinates(0), ("north/bergen", "june"))
        self.assertEqual(space.coordinates(3), ("north/oslo", "may"))
        self.assertEqual(space.coordinates(5), ("south/rome", "may"))
        self.assertEqual(space.parts(3), (1, 1))
        self.assertEqual(space.parts(4), (2, 0))
        self.assertEqual(space.cell(("south/rome", "june")), 4)

    def test_all_cells_there_and_back(self):
        for space in sample_spaces():
            cells = range(space.many)
            with self.subTest(space.dimensions):
                parts = [space.parts(cell) for cell in cells]
                self.assertEqual(parts, sorted(parts))
                self.assertEqual(len(set(parts)), space.many)
                for cell in cells:
                    self.assertIs(type(space.parts(cell)), tuple)
                    leaves = tuple(leaves[part] for part, (_, leaves) in zip(parts[cell], space.dimensions))
                    self.assertEqual(space.coordinates(cell), leaves)
                    self.assertEqual(space.cell(leaves), cell)

    def test_number_of_cells_is_the_product(self):
        for space in sample_spaces():
            product = 1
            for _, leaves in space.dimensions:
                product *= len(leaves)
            self.assertEqual(space.many, product)

    def test_order_is_by_the_first_dimension_first(self):
        space = Space((("one", flat(2)), ("two", flat(3)), ("three", flat(2))))
        self.assertEqual([space.parts(cell) for cell in range(8)],
                         [(0, 0, 0), (0, 0, 1), (0, 1, 0), (0, 1, 1), (0, 2, 0), (0, 2, 1), (1, 0, 0), (1, 0, 1)])

    def test_no_such_cell(self):
        faulty = ((), ("north/oslo",), ("may",), ("may", "north/oslo"), ("north/oslo", "may", "may"),
                  ("north/oslo", "may", ""), ("", "north/oslo", "may"), ("north", "may"), ("", "may"),
                  ("north/oslo", ""), ("", ""), ("north/rome", "may"), ("north/oslo", "july"),
                  ("oslo", "may"), ("north/oslo", "north/oslo"), ("north/oslo ", "may"), ("north/oslo", "MAY"))
        for coordinates in faulty:
            with self.subTest(coordinates):
                with self.assertRaises(NoSuchCell):
                    example().cell(coordinates)

    def test_one_path_exchanged(self):
        for space in sample_spaces():
            for cell in range(space.many):
                leaves = space.coordinates(cell)
                for at in range(len(leaves)):
                    for wrong in ("", "zzz", leaves[at] + "/a", leaves[at] + "a"):
                        with self.assertRaises(NoSuchCell):
                            space.cell(leaves[:at] + (wrong,) + leaves[at + 1:])

    def test_path_left_out_or_put_in(self):
        for space in sample_spaces():
            for cell in range(space.many):
                leaves = space.coordinates(cell)
                for at in range(len(leaves)):
                    with self.assertRaises(NoSuchCell):
                        space.cell(leaves[:at] + leaves[at + 1:])
                    with self.assertRaises(NoSuchCell):
                        space.cell(leaves[:at] + (leaves[at],) + leaves[at:])


if __name__ == "__main__":
    unittest.main()
