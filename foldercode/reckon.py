"""What an expression comes to under a setting."""

from foldercode.errors import ByNought, TooGreat, Unset
from foldercode.trees import LIMIT


def reckoned(word, one, two):
    """The number that a word of two makes of two numbers."""
    if word == "sum":
        return _within(one + two)
    if word == "less":
        return _within(one - two)
    if word == "times":
        return _within(one * two)
    if word == "below":
        return 1 if one < two else 0
    if word == "same":
        return 1 if one == two else 0
    if two == 0:
        raise ByNought("something is to be divided by 0")
    quotient = one // two
    if word == "part":
        return quotient
    return one - two * quotient


def _within(number):
    """The number itself, if it lies within the limit."""
    if abs(number) > LIMIT:
        raise TooGreat("a result lies beyond the limit")
    return number


def value(expr, setting):
    """The number that an expression comes to under a setting."""
    if expr[0] == "num":
        return expr[1]
    if expr[0] == "name":
        return _number_of(expr[1], setting)
    if expr[0] == "when":
        _, cond, one, two = expr
        leg = two if value(cond, setting) == 0 else one
        return value(leg, setting)
    if expr[0] == "let":
        _, name, outer, inner = expr
        number = value(outer, setting)
        # A new dict: the setting that was handed in stays as it is.
        return value(inner, {**setting, name: number})
    word, one, two = expr
    first = value(one, setting)
    second = value(two, setting)
    return reckoned(word, first, second)


def _number_of(name, setting):
    """The number that the setting tells for a name."""
    if name not in setting:
        raise Unset(name)
    return setting[name]
