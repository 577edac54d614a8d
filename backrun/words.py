"""Words: the integers of a width, and the ten ops on them."""

OPS = ("add", "sub", "mul", "and", "or", "xor", "less", "equal", "shl", "shr")


def top(w):
    """The greatest word of a width."""
    return (1 << w) - 1


def compute(op, w, x, y):
    """The word that an op gives for two words of width w."""
    if op == "add":
        return (x + y) & top(w)
    if op == "sub":
        return (x - y) & top(w)
    if op == "mul":
        return (x * y) & top(w)
    if op == "and":
        return x & y
    if op == "or":
        return x | y
    if op == "xor":
        return x ^ y
    if op == "less":
        return 1 if x < y else 0
    if op == "equal":
        return 1 if x == y else 0
    return shift(op, w, x, y)


def shift(op, w, x, y):
    """The word that shl or shr gives."""
    # y may be any word up to 2**32 - 1: a shift by so many bits would not fit into memory.
    if y >= w:
        return 0
    if op == "shl":
        return (x << y) & top(w)
    return x >> y
