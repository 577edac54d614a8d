"""Programs as plain values: names, the parts of expressions and statements, paths."""

# How deep statements may nest, and expressions: a statement of a procedure's body is one deep,
# and so is a whole expression or place.
DEPTH = 20

NAME_LENGTH = 20
LETTERS = "abcdefghijklmnopqrstuvwxyz"
NAME_SIGNS = "abcdefghijklmnopqrstuvwxyz0123456789_"
NOT_NAMES = (
    "width", "vars", "proc", "end", "if", "then", "else", "fi", "from", "do", "loop", "until",
    "call", "uncall", "local", "in", "delocal", "skip",
)


def is_name(text):
    """Whether a value of any kind is a name."""
    if not isinstance(text, str) or not 1 <= len(text) <= NAME_LENGTH:
        return False
    if text[0] not in LETTERS or text in NOT_NAMES:
        return False
    return all(sign in NAME_SIGNS for sign in text)


def parts(expression):
    """The expressions that stand directly in an expression or a place."""
    word = expression[0]
    if word == "int" or word == "var":
        return ()
    if word == "cell":
        return (expression[2],)
    return expression[1:]


def uses(expression):
    """The pairs ("var" or "cell", name) of an expression, one for each time that a name stands in it."""
    found = []
    waiting = [expression]
    while waiting:
        part = waiting.pop()
        if part[0] == "var" or part[0] == "cell":
            found.append((part[0], part[1]))
        waiting.extend(parts(part))
    return found


def mentions(expression):
    """The ascending tuple of the names that stand in an expression, indices included."""
    return tuple(sorted({name for _, name in uses(expression)}))


def expressions(statement):
    """The expressions and places that stand directly in a statement."""
    word = statement[0]
    if word == "if" or word == "loop":
        return statement[1], statement[4]
    if word == "local":
        return statement[2], statement[4]
    if word == "call" or word == "uncall":
        return ()
    return statement[1:]


def bodies(statement):
    """The bodies of a statement, in order."""
    word = statement[0]
    if word == "if" or word == "loop":
        return statement[2], statement[3]
    if word == "local":
        return (statement[3],)
    return ()


def statements(program):
    """The pairs (path, statement) of all statements, in ascending order of their paths."""
    for at, procedure in enumerate(program[2]):
        body = procedure[2]
        prefix = (at,)
        yield from statements_below(body, prefix)


def statements_below(body, prefix):
    """The pairs (path, statement) of a body whose statements' paths begin with the prefix."""
    for at, statement in enumerate(body):
        path = prefix + (at,)
        yield path, statement
        for branch, inner in enumerate(bodies(statement)):
            inner_prefix = path + (branch,)
            yield from statements_below(inner, inner_prefix)


def find_statement(program, path):
    """The statement at a path, or None if none stands there."""
    if len(path) & 1:
        return None
    statement = None
    choices = tuple([procedure[2] for procedure in program[2]])
    for branch, at in zip(path[::2], path[1::2]):
        if not 0 <= branch < len(choices) or not 0 <= at < len(choices[branch]):
            return None
        statement = choices[branch][at]
        choices = bodies(statement)
    return statement
