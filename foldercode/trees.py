"""What can be told of an expression as it stands: size, depth and names."""

LIMIT = 1000000000
DEEPEST = 60


def parts(expr):
    """The expressions that stand directly in this one, from the left."""
    word = expr[0]
    if word in ("num", "name"):
        return ()
    if word == "let":
        return expr[2:]
    return expr[1:]


def size(expr):
    """How many expressions stand in this one, itself too."""
    return 1 + sum([size(part) for part in parts(expr)])


def deep(expr):
    """1 for a number or a name, else 1 more than the deepest part."""
    return 1 + max([deep(part) for part in parts(expr)], default=0)


def needs(expr):
    """The names whose numbers come from outside, each once, from the left."""
    # A dict keeps the order in which the names first come, and each but once.
    found = {}
    _gather(expr, (), found)
    return list(found)


def _gather(expr, hidden, found):
    """Puts into `found` the names of the expression that aren't hidden."""
    if expr[0] == "name":
        if expr[1] not in hidden:
            found[expr[1]] = True
    elif expr[0] == "let":
        _, word, outer, inner = expr
        _gather(outer, hidden, found)
        _gather(inner, (*hidden, word), found)
    else:
        for part in parts(expr):
            _gather(part, hidden, found)
