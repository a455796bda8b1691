"""The dimensions of a cube, their members, and the cells."""

from cubesums.errors import BadDimensions, NoSuchCell, NoSuchName

LETTERS = "abcdefghijklmnopqrstuvwxyz"
KEPT_WORDS = ("sum", "where", "in", "and")
LONGEST_WORD = 8
DEEPEST = 3
FEWEST_LEAVES = 2
MOST_LEAVES = 8
MOST_DIMENSIONS = 3
MOST_CELLS = 48


def is_word(text):
    """Tell whether a string is a word."""
    if text in KEPT_WORDS or not 1 <= len(text) <= LONGEST_WORD:
        return False
    return all([letter in LETTERS for letter in text])


def words_of(path):
    """Return the words of a path, a list."""
    # Splitting the empty string would give one empty word.
    return path.split("/") if path else []


def start_of(path, many):
    """Return the path of the first words of a path."""
    return "/".join(words_of(path)[:many])


def choices(rows):
    """Return all tuples with one item of each row, where the last item changes first."""
    found = [()]
    for row in rows:
        found = [(*chosen, item) for chosen in found for item in row]
    return found


def check_dimensions(dimensions):
    """Raise BadDimensions if these are not the dimensions of a cube."""
    if not 1 <= len(dimensions) <= MOST_DIMENSIONS:
        raise BadDimensions()
    names = [name for name, _ in dimensions]
    if len(set(names)) < len(names):
        raise BadDimensions()
    cells = 1
    for name, leaves in dimensions:
        if not _is_dimension(name, leaves):
            raise BadDimensions()
        cells = cells * len(leaves)
    if cells > MOST_CELLS:
        raise BadDimensions()


def _is_dimension(name, leaves):
    if not is_word(name) or not FEWEST_LEAVES <= len(leaves) <= MOST_LEAVES:
        return False
    depth = len(words_of(leaves[0]))
    if not 1 <= depth <= DEEPEST:
        return False
    if not all([_is_leaf(leaf, depth) for leaf in leaves]):
        return False
    return all([before < after for before, after in zip(leaves, leaves[1:])])


def _is_leaf(path, depth):
    words = words_of(path)
    return len(words) == depth and all([is_word(word) for word in words])


def _members_by_level(leaves):
    """Return for each level the paths of its members, in the order of their leaves."""
    levels = []
    for level in range(len(words_of(leaves[0])) + 1):
        # The keys of a dict are different and keep the order in which they came.
        members = {start_of(leaf, level): True for leaf in leaves}
        levels.append(tuple(members))
    return levels


def _leaves_by_member(leaves):
    """Return a dict with the numbers of the leaves that belong to each member's path."""
    found = {}
    for number, leaf in enumerate(leaves):
        for level in range(len(words_of(leaf)) + 1):
            found.setdefault(start_of(leaf, level), []).append(number)
    return {path: tuple(numbers) for path, numbers in found.items()}


class Space:
    """The dimensions of a cube, with their members and cells."""

    def __init__(self, dimensions):
        check_dimensions(dimensions)
        self.dimensions = dimensions
        self._levels = [_members_by_level(leaves) for _, leaves in dimensions]
        self._leaves = [_leaves_by_member(leaves) for _, leaves in dimensions]
        self._parts = choices([list(range(len(leaves))) for _, leaves in dimensions])
        self._cells = choices([leaves for _, leaves in dimensions])
        self._numbers = {leaves: number for number, leaves in enumerate(self._cells)}
        self.many = len(self._cells)

    def depth(self, at):
        """Return the depth of a dimension."""
        return len(self._levels[at]) - 1

    def members(self, at, level):
        """Return the members of a level of a dimension, in order."""
        return self._levels[at][level]

    def dimension_at(self, name):
        """Return the number of the dimension with a name; raise NoSuchName if there is none."""
        for at, (known, _) in enumerate(self.dimensions):
            if known == name:
                return at
        raise NoSuchName(name)

    def has_member(self, at, path):
        """Tell whether a string is the path of a member of a dimension, of any level."""
        return path in self._leaves[at]

    def leaves_of(self, at, path):
        """Return the numbers of the leaves of a member; raise NoSuchName if there is none."""
        if not self.has_member(at, path):
            raise NoSuchName(path)
        return self._leaves[at][path]

    def parts(self, cell):
        """Return the numbers of the leaves of a cell."""
        return self._parts[cell]

    def coordinates(self, cell):
        """Return the leaves of a cell."""
        return self._cells[cell]

    def cell(self, coordinates):
        """Return the number of the cell with these leaves; raise NoSuchCell if there is none."""
        if coordinates not in self._numbers:
            raise NoSuchCell()
        return self._numbers[coordinates]
