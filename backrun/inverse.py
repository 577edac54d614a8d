"""Inverses of statements, bodies and programs."""

INVERSE_WORDS = {"plus": "minus", "minus": "plus", "call": "uncall", "uncall": "call"}


def inverse_statement(statement):
    """The statement that undoes a statement."""
    word = statement[0]
    if word in INVERSE_WORDS:
        return (INVERSE_WORDS[word], statement[1], statement[2])
    if word == "if" or word == "loop":
        _, early, first, second, late = statement
        return (word, late, inverse_body(first), inverse_body(second), early)
    if word == "local":
        _, name, early, body, late = statement
        return (word, name, late, inverse_body(body), early)
    return statement


def inverse_body(body):
    """The body that undoes a body: the inverses of its statements in the other order."""
    return tuple([inverse_statement(statement) for statement in reversed(body)])


def inverse(program):
    """The program in which main has the inverse body."""
    width, declared, procedures = program
    return (width, declared, tuple([inverse_main(procedure) for procedure in procedures]))


def inverse_main(procedure):
    """The procedure itself, or main with the inverse body."""
    name, params, body = procedure
    if name == "main":
        return (name, params, inverse_body(body))
    return procedure
