"""Expressions made shorter ahead, where some of the numbers are known."""

from foldercode.errors import FoldError
from foldercode.reckon import reckoned
from foldercode.trees import LIMIT

# Over these the order of a number and something else makes no difference: a
# number is never refused, so it doesn't matter either which is reckoned first.
EITHER_WAY = ("sum", "times", "same")


def joined(word, one, two):
    """A word of two over two short expressions, as a short one."""
    if one[0] == "num" and two[0] == "num":
        return _settled(word, one, two)
    if one[0] == "num" and word in EITHER_WAY:
        return joined(word, two, one)
    if two[0] != "num":
        return (word, one, two)
    return _by_number(word, one, two[1])


def _settled(word, one, two):
    """A word over two numbers: its number, or as it stands if refused."""
    try:
        return ("num", reckoned(word, one[1], two[1]))
    except FoldError:
        return (word, one, two)


def _by_number(word, short, n):
    """A word over what is no number, and the number n."""
    if word == "less":
        return joined("sum", short, ("num", -n))
    if word == "sum":
        return _plus(short, n)
    if word == "times":
        return _times(short, n)
    if word == "part":
        return _part(short, n)
    if word == "rest":
        return _rest(short, n)
    return (word, short, ("num", n))


def _plus(short, n):
    """The sum of what is no number and n."""
    if n == 0:
        return short
    if _has_number("sum", short):
        b, m = short[1], short[2][1]
        if _same_side(m, n) and abs(m + n) <= LIMIT:
            return joined("sum", b, ("num", m + n))
    if short[0] == "less" and short[1][0] == "num":
        m, b = short[1][1], short[2]
        if (m == 0 or _same_side(m, n)) and abs(m + n) <= LIMIT:
            return joined("less", ("num", m + n), b)
    return ("sum", short, ("num", n))


def _same_side(m, n):
    """Whether both are above 0 or both below 0."""
    # Only then is what they make together refused wherever the first step is.
    return (m > 0 and n > 0) or (m < 0 and n < 0)


def _times(short, n):
    """The product of what is no number and n."""
    if n == 1:
        return short
    if _has_number("times", short):
        b, m = short[1], short[2][1]
        if n != 0 and abs(m * n) <= LIMIT:
            return joined("times", b, ("num", m * n))
    return ("times", short, ("num", n))


def _part(short, n):
    """What is no number, parted by n."""
    if n == 1:
        return short
    if _has_number("part", short):
        b, m = short[1], short[2][1]
        if m > 0 and n > 0 and m * n <= LIMIT:
            return joined("part", b, ("num", m * n))
    return ("part", short, ("num", n))


def _rest(short, n):
    """The rest of what is no number by n."""
    if _has_number("rest", short):
        b, m = short[1], short[2][1]
        if m > 0 and n > 0:
            if m <= n:
                return short
            if m % n == 0:
                return joined("rest", b, ("num", n))
    return ("rest", short, ("num", n))


def _has_number(word, short):
    """Whether it is this word over something and a number behind it."""
    return short[0] == word and short[2][0] == "num"


def chosen(cond, one, two):
    """One of two short expressions, or the when of them and a third."""
    if cond[0] == "num":
        return two if cond[1] == 0 else one
    if cond[0] == "same" and cond[2] == ("num", 0):
        return chosen(cond[1], two, one)
    return ("when", cond, one, two)


def folded(expr, known):
    """An expression made shorter, some names' numbers being known."""
    if expr[0] == "num":
        return expr
    if expr[0] == "name":
        name = expr[1]
        return ("num", known[name]) if name in known else expr
    if expr[0] == "when":
        _, cond, one, two = expr
        return chosen(folded(cond, known), folded(one, known), folded(two, known))
    if expr[0] == "let":
        return _folded_let(expr, known)
    word, one, two = expr
    return joined(word, folded(one, known), folded(two, known))


def _folded_let(expr, known):
    """A let made shorter; the known dict itself stays as it is."""
    _, own, outer, inner = expr
    first = folded(outer, known)
    if first[0] == "num":
        return folded(inner, {**known, own: first[1]})
    # What is known of the name outside says nothing of the let's own number.
    others = {name: known[name] for name in known if name != own}
    return ("let", own, first, folded(inner, others))
