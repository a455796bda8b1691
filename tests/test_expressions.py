"""Tokens, numbers, names, the grammar, the first faulty token, and trees: points 15 to 17."""

import itertools
import unittest

from cubesums.errors import CubeError, FaultyText
from cubesums.expressions import read_expression, tokens

SUM = ("sum", ())
NORTH = ("sum", (("town", ("north",)),))
# What may come behind each part of an expression, written out as a table of its own. Behind
# "(" and ")" the table alone does not decide: there the open parentheses are counted.
NEXT = {
    "first": {"-": "term", "number": "times", "sum": "sum", "(": "first"},
    "term": {"number": "times", "sum": "sum", "(": "first"},
    "times": {"*": "factor"},
    "factor": {"sum": "sum", "(": "first"},
    "sum": {"where": "condition", "+": "term", "-": "term", ")": "closed"},
    "condition": {"name": "named"},
    "named": {"in": "path"},
    "path": {"name": "said"},
    "said": {"/": "path", ",": "path", "and": "condition", "+": "term", "-": "term", ")": "closed"},
    "closed": {"+": "term", "-": "term", ")": "closed"},
}
WHOLE = ("sum", "said", "closed")
KINDS = {"3": "number", "town": "name"}
TOKENS = ("sum", "where", "in", "and", "town", "3", "+", "-", "*", "(", ")", ",", "/", "1001")


def state_behind(found):
    """The state behind tokens and how many parentheses are open, or the place of the faulty token."""
    state, held = "first", 0
    for at, token in enumerate(found):
        kind = KINDS.get(token, token)
        if kind not in NEXT[state] or (kind == "(" and held == 10) or (kind == ")" and held == 0):
            return at + 1, None
        state = NEXT[state][kind]
        held += (kind == "(") - (kind == ")")
    return None, (state, held)


def fault_by_hand(found):
    """Point 16: the field `at`, or None for an expression."""
    at, end = state_behind(found)
    if at is not None:
        return at
    return None if end[0] in WHOLE and end[1] == 0 else len(found) + 1


def table_token(token):
    """A token of the table in place of any number and any name."""
    if token.isdigit() and token != "1001":
        return "3"
    return "town" if token.isalpha() and token not in TOKENS else token


def fault_of(text):
    """The field `at` with which a text is refused, or None."""
    try:
        read_expression(text)
    except FaultyText as error:
        return error.at
    return None


def text_of(tree):
    """An expression with this tree, without needless parentheses."""
    kind = tree[0]
    if kind == "sum":
        conditions = [name + " in " + ", ".join(paths) for name, paths in tree[1]]
        return "sum where " + " and ".join(conditions) if conditions else "sum"
    if kind == "times":
        return f"{tree[1]} * {held_text(tree[2], ('sum',))}"
    if kind == "minus":
        return "-" + held_text(tree[1], ("sum", "times"))
    return text_of(tree[1]) + (" + " if kind == "plus" else " - ") + held_text(tree[2], ("sum", "times"))


def held_text(tree, bare):
    """The text of a tree, in parentheses if its kind is none of those that stand bare."""
    return text_of(tree) if tree[0] in bare else "(" + text_of(tree) + ")"


def full_text(tree):
    """An expression with this tree, with parentheses around each part."""
    kind = tree[0]
    if kind == "sum":
        return "(" + text_of(tree) + ")"
    if kind == "times":
        return f"({tree[1]}*{full_text(tree[2])})"
    if kind == "minus":
        return "(-" + full_text(tree[1]) + ")"
    return "(" + full_text(tree[1]) + ("+" if kind == "plus" else "-") + full_text(tree[2]) + ")"


def grown(trees):
    """The trees that are made from these in one step."""
    found = [("minus", tree) for tree in trees] + [("times", number, tree) for number in (0, 7) for tree in trees]
    return found + [(kind, one, two) for kind in ("plus", "less") for one in trees for two in trees]


class TokenTest(unittest.TestCase):
    def test_words_digits_and_signs(self):
        for text, found in (
                ("sum", ("sum",)), ("2*sum", ("2", "*", "sum")), ("2sum", ("2", "sum")), ("sum2", ("sum", "2")),
                ("a1b22c", ("a", "1", "b", "22", "c")), ("12+34", ("12", "+", "34")), ("-5", ("-", "5")),
                ("3-4", ("3", "-", "4")), ("--", ("-", "-")), ("((sum))", ("(", "(", "sum", ")", ")")),
                ("a/b,c", ("a", "/", "b", ",", "c")), ("007", ("007",)), ("sumsum", ("sumsum",)),
                ("sum where town in north/oslo, south",
                 ("sum", "where", "town", "in", "north", "/", "oslo", ",", "south"))):
            with self.subTest(text):
                self.assertEqual(tokens(text), found)

    def test_blanks(self):
        self.assertEqual(tokens(""), ())
        self.assertEqual(tokens(" "), ())
        self.assertEqual(tokens("    "), ())
        self.assertEqual(tokens("  sum  "), ("sum",))
        self.assertEqual(tokens("su m"), ("su", "m"))
        self.assertEqual(tokens("1 2"), ("1", "2"))
        self.assertEqual(tokens("1   2 a  b"), ("1", "2", "a", "b"))
        self.assertEqual(tokens(" ( sum ) - sum"), ("(", "sum", ")", "-", "sum"))

    def test_every_other_character_by_itself(self):
        for code in range(33, 127):
            sign = chr(code)
            if not sign.islower() and not sign.isdigit() and sign != "%":
                with self.subTest(sign):
                    self.assertEqual(tokens("ab" + sign + sign + "12"), ("ab", sign, sign, "12"))
                    self.assertEqual(tokens(sign), (sign,))
        self.assertEqual(tokens("sum\nsum"), ("sum", "\n", "sum"))
        self.assertEqual(tokens("\n\n"), ("\n", "\n"))
        self.assertEqual(tokens("Sum"), ("S", "um"))
        self.assertEqual(tokens("suM"), ("su", "M"))
        self.assertEqual(tokens("sUMm"), ("s", "U", "M", "m"))

    def test_runs_as_long_as_possible(self):
        self.assertEqual(tokens("a" * 300), ("a" * 300,))
        self.assertEqual(tokens("9" * 300), ("9" * 300,))
        self.assertEqual(tokens("az09" * 75), ("az", "09") * 75)
        self.assertEqual(tokens("+" * 300), ("+",) * 300)

    def test_each_letter_and_digit(self):
        self.assertEqual(tokens("abcdefghijklmnopqrstuvwxyz0123456789"),
                         ("abcdefghijklmnopqrstuvwxyz", "0123456789"))

    def test_tokens_put_together_again(self):
        for signs in itertools.product("a0 +A", repeat=5):
            text = "".join(signs)
            found = tokens(text)
            self.assertEqual("".join(found), text.replace(" ", ""))
            self.assertEqual(tokens(" ".join(found)), found)


class TreeTest(unittest.TestCase):
    def read(self, text, tree):
        with self.subTest(text):
            self.assertEqual(read_expression(text), tree)

    def test_example(self):
        self.read("2 * sum where town in north - sum", ("less", ("times", 2, NORTH), SUM))

    def test_sums(self):
        self.read("sum", SUM)
        self.read("sum where town in north", NORTH)
        self.read("sum where town in north/oslo", ("sum", (("town", ("north/oslo",)),)))
        self.read("sum where town in north / oslo / x", ("sum", (("town", ("north/oslo/x",)),)))
        self.read("sum where a in b, c/d,e", ("sum", (("a", ("b", "c/d", "e")),)))
        self.read("sum where a in b and c in d, e and f in g",
                  ("sum", (("a", ("b",)), ("c", ("d", "e")), ("f", ("g",)))))
        self.read("sum where a in b, b and a in b", ("sum", (("a", ("b", "b")), ("a", ("b",)))))
        self.read("sum where a in " + "/".join("bcdefgh"), ("sum", (("a", ("b/c/d/e/f/g/h",)),)))

    def test_signs(self):
        self.read("-sum", ("minus", SUM))
        self.read("- sum", ("minus", SUM))
        self.read("-2 * sum", ("minus", ("times", 2, SUM)))
        self.read("-sum + sum", ("plus", ("minus", SUM), SUM))
        self.read("-sum - sum", ("less", ("minus", SUM), SUM))
        self.read("-(sum - sum)", ("minus", ("less", SUM, SUM)))
        self.read("-(-sum)", ("minus", ("minus", SUM)))
        self.read("sum + (-sum)", ("plus", SUM, ("minus", SUM)))
        self.read("3 * (-sum)", ("times", 3, ("minus", SUM)))

    def test_several_terms(self):
        self.read("sum + sum", ("plus", SUM, SUM))
        self.read("sum - sum", ("less", SUM, SUM))
        self.read("sum - sum + sum", ("plus", ("less", SUM, SUM), SUM))
        self.read("sum + sum - sum where town in north", ("less", ("plus", SUM, SUM), NORTH))
        self.read("sum where town in north + sum", ("plus", NORTH, SUM))
        self.read("sum - (sum - sum)", ("less", SUM, ("less", SUM, SUM)))
        self.read("sum-sum-sum-sum", ("less", ("less", ("less", SUM, SUM), SUM), SUM))

    def test_multiples(self):
        self.read("3*sum", ("times", 3, SUM))
        self.read("3 * (sum)", ("times", 3, SUM))
        self.read("3 * (4 * sum)", ("times", 3, ("times", 4, SUM)))
        self.read("3 * sum + sum", ("plus", ("times", 3, SUM), SUM))
        self.read("3 * (sum + sum)", ("times", 3, ("plus", SUM, SUM)))
        self.read("sum - 3 * sum", ("less", SUM, ("times", 3, SUM)))
        self.read("1*sum", ("times", 1, SUM))

    def test_numbers(self):
        for number in (0, 1, 9, 10, 99, 100, 101, 999, 1000):
            self.read(f"{number} * sum", ("times", number, SUM))
        self.assertIs(type(read_expression("0 * sum")[1]), int)

    def test_parentheses_leave_no_trace(self):
        self.read("(sum)", SUM)
        self.read("((sum))", SUM)
        self.read("(sum) + ((sum))", ("plus", SUM, SUM))
        self.read("((2 * (sum where town in north)) - (sum))", ("less", ("times", 2, NORTH), SUM))
        self.read("(sum + sum) + sum", ("plus", ("plus", SUM, SUM), SUM))
        self.read("(" * 10 + "sum" + ")" * 10, SUM)

    def test_longest_and_shortest_words(self):
        self.read("sum where abcdefgh in abcdefgh/abcdefgh", ("sum", (("abcdefgh", ("abcdefgh/abcdefgh",)),)))
        self.read("sum where a in a", ("sum", (("a", ("a",)),)))
        self.read("sum where sums in inn, ands", ("sum", (("sums", ("inn", "ands")),)))

    def test_many_terms(self):
        tree = SUM
        for _ in range(74):
            tree = ("plus", tree, SUM)
        self.assertEqual(read_expression("+".join(["sum"] * 75)), tree)

    def test_trees_of_texts_made_from_trees(self):
        trees = [SUM, NORTH, ("sum", (("a", ("b/c", "d")), ("e", ("f",))))]
        some = trees + grown(trees)
        for tree in some + grown(some[:6] + some[-8:]):
            self.assertEqual(read_expression(text_of(tree)), tree)
            if full_text(tree).count("(") <= 10:
                self.assertEqual(read_expression(full_text(tree)), tree)

    def test_kinds_of_values(self):
        def plain(found):
            return type(found) in (str, int) or type(found) is tuple and all(plain(part) for part in found)

        self.assertTrue(plain(read_expression("-2 * sum where a in b, c and d in e + (sum - 0 * sum)")))
        self.assertIs(type(tokens("sum")), tuple)


class FaultTest(unittest.TestCase):
    def fault(self, text, at):
        with self.subTest(text):
            with self.assertRaises(FaultyText) as caught:
                read_expression(text)
            self.assertEqual(caught.exception.at, at)
            self.assertIsInstance(caught.exception, CubeError)

    def test_ends_too_early(self):
        whole = tokens("-2*(sum where town in north/oslo,south and month in may)")
        ends = [many for many in range(len(whole)) if fault_of(" ".join(whole[:many])) == many + 1]
        self.assertEqual(ends, list(range(len(whole))))
        for text, at in (("", 1), ("  ", 1), ("-", 2), ("2", 2), ("2 *", 3), ("(", 2), ("(sum", 3), ("sum +", 3),
                         ("sum -", 3), ("sum where", 3), ("sum where a", 4), ("sum where a in", 5),
                         ("sum where a in b/", 7), ("sum where a in b,", 7), ("sum where a in b and", 7),
                         ("sum where a in b and c", 8), ("(sum where a in b", 7), ("((sum)", 5), ("-(", 3)):
            self.fault(text, at)

    def test_token_behind_a_whole_expression(self):
        for text, at in (("sum sum", 2), ("sum)", 2), ("(sum))", 4), ("sum 2", 2), ("sum where a in b c", 6),
                         ("sum where a in b)", 6), ("(sum) sum", 4), ("sum,", 2), ("sum/a", 2), ("sum*2", 2),
                         ("sum and", 2), ("sum in", 2), ("sum(", 2), ("sum?", 2), ("sum\n", 2), ("sum A", 2),
                         ("sum where a in b where c in d", 6), ("(sum) where a in b", 4)):
            self.fault(text, at)

    def test_numbers(self):
        for number in ("1001", "007", "00", "01", "0000", "9999", "10000", "1" * 300, "0" * 290, "01000"):
            self.fault(number, 1)
            self.fault(number[:290] + " * sum", 1)
            self.fault("sum - " + number[:290] + "*sum", 3)
            self.fault("(" + number[:290] + "*sum)", 2)
        self.fault("2 sum", 2)
        self.fault("2 (sum)", 2)
        self.fault("2 * 3 * sum", 3)
        self.fault("2 * 3", 3)
        self.fault("2 * -sum", 3)
        self.fault("sum * 2", 2)
        self.fault("1 0 * sum", 2)
        self.fault("1*", 3)
        self.fault("2", 2)

    def test_signs(self):
        for text, at in (("--sum", 2), ("+sum", 1), ("-+sum", 2), ("sum + -sum", 3), ("sum - -sum", 3),
                         ("sum + +sum", 3), ("(+sum)", 2), ("(--sum)", 3), ("sum -", 3), ("*sum", 1)):
            self.fault(text, at)

    def test_words_where_a_name_is_asked(self):
        for word in ("sum", "where", "in", "and", "abcdefghi", "abcdefghijklmnop", "2", "(", "-", "/", ",", "A", "_"):
            self.fault(f"sum where {word} in b", 3)
            self.fault(f"sum where a in {word}", 5)
            self.fault(f"sum where a in b/{word}", 7)
            self.fault(f"sum where a in b, {word}", 7)
            self.fault(f"sum where a in b and {word}", 7)
            self.fault(f"sum where a in b and c in {word}", 9)

    def test_name_where_another_token_is_asked(self):
        for text, at in (("town", 1), ("where", 1), ("in", 1), ("and", 1), ("sum town", 2), ("sum where a b", 4),
                         ("sum where a/b in c", 4), ("sum where a, b in c", 4), ("sums", 1), ("2 * town", 3),
                         ("sum where a in b in c", 6), ("sum where a in b and in c", 7), ("sumwhere a in b", 1),
                         ("sum where a in b/c d", 8)):
            self.fault(text, at)

    def test_characters_that_no_expression_has(self):
        for sign in "ABZ_.:;!?\"#$&'<=>@[\\]^`{|}~\n":
            self.fault(sign, 1)
            self.fault(sign + "sum", 1)
            self.fault("sum" + sign, 2)
            self.fault("sum where a in b" + sign, 6)
            self.fault("sum where a in " + sign, 5)
            self.fault("(" + sign, 2)
        self.fault("Sum", 1)
        self.fault("sUm", 1)
        self.fault("suM", 1)
        self.fault("sum where Town in north", 3)

    def test_parentheses(self):
        self.assertIsNone(fault_of("(" * 10 + "sum" + ")" * 10))
        self.fault("(" * 11 + "sum" + ")" * 11, 11)
        self.fault("(" * 11, 11)
        self.fault("(" * 30, 11)
        self.fault("(" * 10, 11)
        self.fault("(" * 10 + "sum" + ")" * 9, 21)
        self.fault("(" * 10 + "sum" + ")" * 11, 22)
        self.fault("(" * 10 + "2 * (sum)" + ")" * 10, 13)
        self.fault("(" * 10 + "-(sum)" + ")" * 10, 12)
        self.fault("(" * 10 + "sum + (sum)" + ")" * 10, 13)
        self.assertIsNone(fault_of("(" * 9 + "(sum) + (sum)" + ")" * 9))
        self.assertIsNone(fault_of("+".join(["(sum)"] * 20)))
        self.assertIsNone(fault_of("(" * 10 + "sum" + ")" * 10 + " - " + "(" * 10 + "sum" + ")" * 10))
        self.fault("(" * 10 + "sum" + ")" * 10 + " - " + "(" * 11 + "sum" + ")" * 11, 33)
        self.fault("()", 2)
        self.fault(")", 1)

    def test_first_fault_counts(self):
        self.fault("sum sum )", 2)
        self.fault("2 * * sum", 3)
        self.fault("sum where in in in", 3)

    def test_agrees_with_the_table(self):
        prefixes = [()]
        for _ in range(8):
            longer = []
            for prefix in prefixes:
                self.assertEqual(fault_of(" ".join(prefix)), fault_by_hand(prefix), prefix)
                for token in TOKENS:
                    found = prefix + (token,)
                    if fault_by_hand(found) in (None, len(found) + 1):
                        longer.append(found)
                    else:
                        self.assertEqual(fault_of(" ".join(found)), len(found), found)
            prefixes = longer

    def test_each_token_exchanged(self):
        for text in ("-2*(sum where town in north/oslo,south and month in may)+sum-(sum)",
                     "(" * 10 + "2*sum where a in b" + ")" * 10, "sum-(-3*(sum where a in b,c and d in e/f))-2*sum"):
            found = tokens(text)
            self.assertIsNone(fault_by_hand([table_token(token) for token in found]))
            for at, token in itertools.product(range(len(found) + 1), TOKENS):
                for rest in (found[at:], found[at + 1:]):
                    changed = [table_token(known) for known in (*found[:at], token, *rest)]
                    self.assertEqual(fault_of(" ".join(changed)), fault_by_hand(changed), changed)


if __name__ == "__main__":
    unittest.main()
