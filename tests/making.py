"""What the tests ask with: expressions of given shapes, and many of them."""

from foldercode.trees import LIMIT, deep, size

WORDS_OF_TWO = ("sum", "less", "times", "part", "rest", "below", "same")
NAMES_LIKE_WORDS = (*WORDS_OF_TWO, "num", "name", "when", "let")
ONE = ("num", 1)
X = ("name", "x")
Y = ("name", "y")
Z = ("name", "z")

# An expression that is refused under every setting, by each class.
BY_NOUGHT = ("part", ONE, ("num", 0))
TOO_GREAT = ("sum", ("num", LIMIT), ONE)


def num(number):
    """The expression of a number."""
    return ("num", number)


def places():
    """Each word with each place in it: a name, and what puts a part there."""
    found = []
    for word in WORDS_OF_TWO:
        found.append((f"{word} first", lambda part, word=word: (word, part, ONE)))
        found.append((f"{word} second", lambda part, word=word: (word, ONE, part)))
    found.append(("when first", lambda part: ("when", part, ONE, X)))
    found.append(("when second", lambda part: ("when", X, part, ONE)))
    found.append(("when third", lambda part: ("when", X, ONE, part)))
    found.append(("let first", lambda part: ("let", "y", part, ONE)))
    found.append(("let second", lambda part: ("let", "y", X, part)))
    return found


def put_around(put, levels, expr=X):
    """An expression of so many levels, put around this one."""
    for _ in range(levels - 1):
        expr = put(expr)
    return expr


def nested(levels, place):
    """An expression of so many levels, whose deep part stands at a place.

    The places go round the shapes, so that each shape stands in it.
    """
    expr = X
    for level in range(levels - 1):
        if place == "first":
            shapes = [("sum", expr, ONE), ("when", expr, ONE, ONE), ("let", "y", expr, ONE)]
        elif place == "middle":
            shapes = [("when", ONE, expr, ONE), ("let", "y", expr, ONE)]
        else:
            shapes = [("less", ONE, expr), ("when", ONE, ONE, expr), ("let", "y", ONE, expr)]
        expr = shapes[level % len(shapes)]
    return expr


def summed(leaves):
    """A sum of these in twos, as flat as can be."""
    if len(leaves) == 1:
        return leaves[0]
    half = len(leaves) // 2
    return ("sum", summed(leaves[:half]), summed(leaves[half:]))


def many_names(count):
    """So many different names, in an order that isn't that of the alphabet."""
    signs = "qwertyuiopasdfghjklzxcvbnm"
    return [signs[k * 7 % 26] + signs[k // 26] for k in range(count)]


class Maker:
    """Puts expressions and settings together, the same ones in every run."""

    NAMES = ("x", "y", "z", "sum", "let")
    NUMBERS = (0, 1, -1, 2, -2, 3, -3, 6, 9, 12, -12, 60, 31623, -31623, LIMIT // 2, -LIMIT // 2,
               LIMIT - 1, 1 - LIMIT, LIMIT, -LIMIT)

    def __init__(self, beginning):
        self.state = beginning

    def upto(self, count):
        """A whole number from 0, below this one."""
        self.state = (self.state * 6364136223846793005 + 1442695040888963407) % 2 ** 64
        return (self.state >> 33) % count

    def one_of(self, choices):
        return choices[self.upto(len(choices))]

    def leaf(self):
        if self.upto(2):
            return ("name", self.one_of(self.NAMES))
        return ("num", self.one_of(self.NUMBERS))

    def tree(self, levels):
        """An expression of at most so many levels."""
        draw = self.upto(20)
        if levels == 1 or draw < 2:
            return self.leaf()
        if draw < 4:
            return ("when", self.tree(levels - 1), self.tree(levels - 1), self.tree(levels - 1))
        if draw < 7:
            return ("let", self.one_of(self.NAMES), self.tree(levels - 1), self.tree(levels - 1))
        if draw < 10:
            return (self.one_of(WORDS_OF_TWO), self.tree(levels - 1), self.tree(levels - 1))
        # The rules of joining are about numbers at one side: more of these.
        number = ("num", self.one_of(self.NUMBERS))
        if draw < 12:
            return (self.one_of(WORDS_OF_TWO), number, self.tree(levels - 1))
        return (self.one_of(WORDS_OF_TWO), self.tree(levels - 1), number)

    def expr(self):
        """An expression within the limits."""
        while True:
            made = self.tree(1 + self.upto(7))
            if size(made) <= 200:
                assert deep(made) <= 60
                return made

    def numbers(self, chance):
        """A dict of numbers for some of the names, so many of 10 of them."""
        return {name: self.one_of(self.NUMBERS) for name in self.NAMES if self.upto(10) < chance}
