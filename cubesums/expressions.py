"""The tokens and the trees of expressions."""

from cubesums.errors import FaultyText
from cubesums.numerals import DIGITS, is_numeral
from cubesums.space import LETTERS, is_word

GREATEST_NUMBER = 1000
MOST_OPEN = 10


def tokens(text):
    """Return the tokens of an expression."""
    found = []
    run = ""
    for sign in text:
        kind = _run_of(sign)
        if kind and kind == run:
            found[-1] = found[-1] + sign
        elif sign != " ":
            found.append(sign)
        run = kind
    return tuple(found)


def _run_of(sign):
    """Return the characters with which a character forms a run, the empty string if there are none."""
    if sign in LETTERS:
        return LETTERS
    return DIGITS if sign in DIGITS else ""


def read_expression(text):
    """Return the tree of an expression; raise FaultyText if the grammar does not read it."""
    reader = Reader(tokens(text))
    tree = reader.expression()
    reader.finish()
    return tree


def _is_number(token):
    # The length is looked at first: Python does not read numbers of any length.
    return is_numeral(token) and len(token) <= len(str(GREATEST_NUMBER)) and int(token) <= GREATEST_NUMBER


class Reader:
    """Reads tokens from left to right, and refuses the first one that cannot continue an expression.

    The next token alone decides each step, so that every token that was read can be continued.
    """

    def __init__(self, found):
        self._tokens = found
        self._read = 0
        self._held = 0

    def _peek(self):
        """Return the next token, the empty string behind the last one."""
        return self._tokens[self._read] if self._read < len(self._tokens) else ""

    def _refuse(self):
        raise FaultyText(self._read + 1)

    def _take(self):
        token = self._peek()
        self._read += 1
        return token

    def _skip(self, token):
        """Take the next token if it is this one, and tell whether it was."""
        if self._peek() != token:
            return False
        self._take()
        return True

    def _expect(self, token):
        if not self._skip(token):
            self._refuse()

    def _word(self):
        if not is_word(self._peek()):
            self._refuse()
        return self._take()

    def finish(self):
        """Refuse a token behind the whole expression."""
        if self._read < len(self._tokens):
            self._refuse()

    def expression(self):
        """Read an expression and return its tree."""
        tree = ("minus", self._term()) if self._skip("-") else self._term()
        while self._peek() in ("+", "-"):
            kind = "plus" if self._take() == "+" else "less"
            tree = (kind, tree, self._term())
        return tree

    def _term(self):
        if not _is_number(self._peek()):
            return self._factor()
        number = int(self._take())
        self._expect("*")
        return ("times", number, self._factor())

    def _factor(self):
        if self._skip("sum"):
            return ("sum", self._conditions())
        if self._held == MOST_OPEN:
            self._refuse()
        self._expect("(")
        self._held += 1
        tree = self.expression()
        self._expect(")")
        self._held -= 1
        return tree

    def _conditions(self):
        if not self._skip("where"):
            return ()
        found = [self._condition()]
        while self._skip("and"):
            found.append(self._condition())
        return tuple(found)

    def _condition(self):
        name = self._word()
        self._expect("in")
        paths = [self._path()]
        while self._skip(","):
            paths.append(self._path())
        return (name, tuple(paths))

    def _path(self):
        words = [self._word()]
        while self._skip("/"):
            words.append(self._word())
        return "/".join(words)
