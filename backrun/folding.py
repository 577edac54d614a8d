"""Parts of expressions that are ops of numbers, and the numbers that they give."""

from backrun.programs import parts
from backrun.values import value_of


def is_way(e, at):
    """Whether an index leads from an expression to one of its parts."""
    if e[0] == "int" or e[0] == "var":
        return False
    if e[0] == "cell":
        return at == 2
    return 1 <= at < len(e)


def is_foldable(e):
    """Whether an expression is an op or a not of numbers only."""
    if e[0] in ("int", "var", "cell"):
        return False
    return all(part[0] == "int" for part in parts(e))


def number_of(width, e):
    """The number that stands for an expression of numbers."""
    return ("int", value_of(width, e, {}))


def fold_once(width, statement, place):
    """The statement, in a tuple, with the part at a place of its expression folded; None if it is refused."""
    if statement[0] not in ("plus", "minus", "xor"):
        return None
    expression = folded_at(width, statement[2], place)
    if expression is None:
        return None
    return ((statement[0], statement[1], expression),)


def folded_at(width, e, place):
    """The expression with the part at a place folded, or None if it is refused."""
    if not place:
        return number_of(width, e) if is_foldable(e) else None
    at = place[0]
    if not is_way(e, at):
        return None
    part = folded_at(width, e[at], place[1:])
    if part is None:
        return None
    return e[:at] + (part,) + e[at + 1:]


def fold_steps(width, e, place):
    """The places of all folds in an expression, in their order, and the expression behind them."""
    places = []
    for at in range(1, len(e)):
        if is_way(e, at):
            inner, part = fold_steps(width, e[at], place + (at,))
            places.extend(inner)
            e = e[:at] + (part,) + e[at + 1:]
    if is_foldable(e):
        places.append(place)
        e = number_of(width, e)
    return places, e
