"""Ordinary programs led over into reversible ones, which give the input and the output back and nothing else."""

OUT = "back_out_"
TRAIL = "back_trail"
TOP = "back_top"
NEW = "back_new"
TURNS = "back_turns"
WORK = "back_work"

ONE = ("int", 1)
# The cell of the trail that is the next one to be used.
NEXT_CELL = ("cell", "back_trail", ("var", "back_top"))


def embed(program, room):
    """The program that does the work of an ordinary one with so many cells for what it would forget."""
    width, names, _, outputs, body = program
    own = tuple([(name, 0) for name in names])
    shown = tuple([(OUT + name, 0) for name in outputs])
    trail = ((TRAIL, room), (TOP, 0))
    passed = names + (TRAIL, TOP)
    copies = tuple([("xor", ("var", OUT + name), ("var", name)) for name in outputs])
    main = (("call", WORK, passed),) + copies + (("uncall", WORK, passed),)
    return (width, own + shown + trail, (("main", (), main), (WORK, own + trail, led_body(body, room, 0))))


def led_body(body, room, whiles):
    """What does the work of a body that stands within so many whiles."""
    found = []
    for statement in body:
        if statement[0] == "set":
            found.append(led_set(statement))
        elif statement[0] == "if":
            found.append(led_if(statement, room, whiles))
        else:
            found.append(led_while(statement, room, whiles))
        found.extend(one_more(room))
    return tuple(found)


def one_more(room):
    """The statements that go on to the next cell of the trail, and fail where it has none left."""
    test = ("less", ("var", TOP), ("int", room))
    return [("if", ONE, (), (), test), ("plus", ("var", TOP), ONE)]


def led_set(statement):
    """The statement that gives a name a new value and leaves the old one on the trail."""
    _, name, e = statement
    exchange = ("swap", ("var", name), ("var", NEW))
    return ("local", NEW, e, (exchange, ("xor", NEXT_CELL, ("var", NEW))), NEXT_CELL)


def led_if(statement, room, whiles):
    """The statement that does one of two bodies and leaves on the trail which one it was."""
    _, e, first, second = statement
    mark = ("plus", NEXT_CELL, ONE)
    return ("if", e, led_body(first, room, whiles) + (mark,), led_body(second, room, whiles), NEXT_CELL)


def led_while(statement, room, whiles):
    """The statement that does a body as long as it must be done and leaves on the trail how often it was."""
    _, e, body = statement
    turns = f"{TURNS}{whiles}"
    # As many turns as there are words lead back to 0, and so to a test that fails.
    again = led_body(body, room, whiles + 1) + (("plus", ("var", turns), ONE),)
    loop = ("loop", ("not", ("var", turns)), (), again, ("not", e))
    return ("local", turns, ("int", 0), (loop, ("xor", NEXT_CELL, ("var", turns))), NEXT_CELL)
