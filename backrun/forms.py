"""Forms: whether values of any kind are declarations, expressions, places, statements."""

from backrun.programs import DEPTH, bodies, expressions, is_name, parts
from backrun.words import top

MOST_CELLS = 256

EXPRESSION_LENGTHS = {
    "int": 2, "var": 2, "cell": 3, "not": 2,
    "add": 3, "sub": 3, "mul": 3, "and": 3, "or": 3, "xor": 3,
    "less": 3, "equal": 3, "shl": 3, "shr": 3,
}

STATEMENT_LENGTHS = {
    "plus": 3, "minus": 3, "xor": 3, "swap": 3, "if": 5, "loop": 5,
    "call": 3, "uncall": 3, "local": 5, "skip": 1,
}


def is_whole(value):
    """Whether a value is an integer; True and False are none."""
    return isinstance(value, int) and not isinstance(value, bool)


def is_integer(value, low, high):
    """Whether a value is an integer from low to high; True and False are none."""
    return is_whole(value) and low <= value <= high


def is_count(value):
    """Whether a value is an integer from 0; True and False are none."""
    return is_integer(value, 0, value)


def is_word(value, w):
    """Whether a value is a word of width w."""
    return is_integer(value, 0, top(w))


def is_declaration(value):
    """Whether a value is a pair of a name and a size."""
    if not isinstance(value, tuple) or len(value) != 2:
        return False
    return is_name(value[0]) and is_integer(value[1], 0, MOST_CELLS)


def begins_with_word(value):
    """Whether a value is a tuple with a string in front."""
    return isinstance(value, tuple) and len(value) > 0 and isinstance(value[0], str)


def looks_like_expression(value):
    """Whether a value has the word and the length of an expression."""
    return begins_with_word(value) and EXPRESSION_LENGTHS.get(value[0]) == len(value)


def looks_like_statement(value):
    """Whether a value has the word and the length of a statement."""
    return begins_with_word(value) and STATEMENT_LENGTHS.get(value[0]) == len(value)


def is_expression(value, w):
    """Whether a value is an expression with words of width w."""
    waiting = [value]
    while waiting:
        part = waiting.pop()
        if not looks_like_expression(part):
            return False
        if part[0] == "int" and not is_word(part[1], w):
            return False
        if part[0] in ("var", "cell") and not is_name(part[1]):
            return False
        waiting.extend(parts(part))
    return True


def is_place(value, w):
    """Whether a value is a place."""
    return is_expression(value, w) and value[0] in ("var", "cell")


def is_statement(value, w):
    """Whether a value is a statement; of its bodies only that they are tuples."""
    if not looks_like_statement(value):
        return False
    word = value[0]
    if word == "call" or word == "uncall":
        return is_name(value[1]) and is_tuple_of_names(value[2])
    if word == "swap":
        return is_place(value[1], w) and is_place(value[2], w)
    if word in ("plus", "minus", "xor"):
        return is_place(value[1], w) and is_expression(value[2], w)
    if word == "local" and not is_name(value[1]):
        return False
    tests = all(is_expression(part, w) for part in expressions(value))
    return tests and all(isinstance(body, tuple) for body in bodies(value))


def is_tuple_of_names(value):
    """Whether a value is a tuple that contains only names."""
    return isinstance(value, tuple) and all(is_name(item) for item in value)


def has_body(value):
    """Whether a value is a triple with a tuple at its end, as a procedure is."""
    return isinstance(value, tuple) and len(value) == 3 and isinstance(value[2], tuple)


def is_too_deep(procedures):
    """Whether statements or expressions in a tuple of any values nest deeper than they may."""
    waiting = []
    for procedure in procedures:
        if has_body(procedure):
            waiting.extend([(statement, 1) for statement in procedure[2]])
    while waiting:
        statement, depth = waiting.pop()
        if looks_like_statement(statement):
            if depth > DEPTH or any(is_deep_expression(part) for part in expressions(statement)):
                return True
            for body in bodies(statement):
                if isinstance(body, tuple):
                    waiting.extend([(inner, depth + 1) for inner in body])
    return False


def is_deep_expression(value):
    """Whether a value is an expression that nests deeper than it may, as far as words and lengths tell."""
    waiting = [(value, 1)]
    while waiting:
        part, depth = waiting.pop()
        if looks_like_expression(part):
            if depth > DEPTH:
                return True
            waiting.extend([(inner, depth + 1) for inner in parts(part)])
    return False
