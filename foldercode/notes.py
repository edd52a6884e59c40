"""Texts of expressions: written, and read again."""

from foldercode.errors import BadText
from foldercode.trees import DEEPEST, LIMIT

LETTERS = "abcdefghijklmnopqrstuvwxyz"
FIGURES = "0123456789"
LONGEST_NAME = 8
# The words at a bracket's head, each with how many expressions it takes.
PARTS = {
    "sum": 2, "less": 2, "times": 2, "part": 2, "rest": 2, "below": 2, "same": 2,
    "when": 3, "let": 2,
}


def shown(expr):
    """The text of an expression."""
    if expr[0] == "num":
        return str(expr[1])
    if expr[0] == "name":
        return expr[1]
    if expr[0] == "let":
        _, name, one, two = expr
        return f"(let {name} {shown(one)} {shown(two)})"
    texts = [shown(part) for part in expr[1:]]
    return "(" + " ".join([expr[0], *texts]) + ")"


def read(text):
    """The expression that a text writes."""
    expr, end = _expression(text, 0, 1)
    if end != len(text):
        raise BadText(f"the expression ends at {end}, the text doesn't")
    return expr


def _expression(text, at, level):
    """The expression that begins here, so many deep, and where it ends."""
    # Asked on the way down, so that a text of any depth is refused in time.
    if level > DEEPEST:
        raise BadText(f"the text is more than {DEEPEST} deep")
    if text[at:at + 1] == "(":
        return _bracket(text, at + 1, level)
    end = _end(text, at)
    return _plain(text[at:end]), end


def _bracket(text, at, level):
    """The expression whose word begins here, and where its bracket ends."""
    end = _end(text, at)
    word = text[at:end]
    if word not in PARTS:
        raise BadText(f"there is no word of an expression at {at}")
    made = [word]
    if word == "let":
        start = _past(text, end, " ")
        end = _end(text, start)
        made.append(_name(text[start:end]))
    for _ in range(PARTS[word]):
        part, end = _expression(text, _past(text, end, " "), level + 1)
        made.append(part)
    return tuple(made), _past(text, end, ")")


def _end(text, at):
    """Where the signs that begin here come to a blank, a bracket or the end."""
    end = at
    while end < len(text) and text[end] not in " ()":
        end += 1
    return end


def _past(text, at, sign):
    """The place behind this sign, which has to stand here."""
    if text[at:at + 1] != sign:
        raise BadText(f"another sign is to stand at {at}")
    return at + 1


def _plain(piece):
    """The name or the number that a piece of text writes."""
    if piece != "" and piece[0] in LETTERS:
        return ("name", _name(piece))
    return ("num", _number(piece))


def _name(piece):
    """The piece itself, if it is a name."""
    if not 1 <= len(piece) <= LONGEST_NAME or not _all_of(piece, LETTERS):
        raise BadText("what stands for a name is none")
    return piece


def _number(piece):
    """The number that a piece of text writes."""
    figures = piece[1:] if piece.startswith("-") else piece
    # By the length first: Python takes no very long text for a number.
    if not 1 <= len(figures) <= len(str(LIMIT)) or not _all_of(figures, FIGURES):
        raise BadText("what stands for a number is none")
    number = int(piece)
    if abs(number) > LIMIT or str(number) != piece:
        raise BadText("a number isn't written as it has to be")
    return number


def _all_of(piece, signs):
    """Whether the piece has these signs alone."""
    return all(sign in signs for sign in piece)
