"""Ordinary programs, which forget: their faults and their runs."""

from backrun.forms import begins_with_word, is_expression, is_integer, is_whole
from backrun.programs import is_name, uses
from backrun.values import value_of

MOST_WIDTH = 32
NAME_LENGTH = 11
OWN_WORD = "back"

STATEMENT_LENGTHS = {"set": 3, "if": 4, "while": 3}


def plain_faults(value):
    """The ascending list of the codes of what is wrong with a value of any kind as an ordinary program."""
    if not has_plain_form(value):
        return ["form"]
    width, names, inputs, outputs, body = value
    found = []
    if not are_different_among(inputs, names):
        found.append("input")
    if not all([is_plain_name(item) and names.count(item) == 1 for item in names]):
        found.append("name")
    if not are_different_among(outputs, names):
        found.append("output")
    # Where the width is wrong, no number is told to be too great for it.
    is_right = is_integer(width, 1, MOST_WIDTH)
    if not is_plain_body(body, width if is_right else MOST_WIDTH, names):
        found.append("statement")
    if not is_right:
        found.append("width")
    return found


def has_plain_form(value):
    """Whether a value is a tuple of an integer and four tuples."""
    if not isinstance(value, tuple) or len(value) != 5:
        return False
    return is_whole(value[0]) and all([isinstance(item, tuple) for item in value[1:]])


def is_plain_name(value):
    """Whether a value is a name that an ordinary program may have."""
    return is_name(value) and len(value) <= NAME_LENGTH and not value.startswith(OWN_WORD)


def are_different_among(items, names):
    """Whether all items are different ones of the names."""
    return all([item in names and items.count(item) == 1 for item in items])


def is_plain_body(body, width, names):
    """Whether all items of a body, and those of the bodies within it, are statements."""
    waiting = list(body)
    while waiting:
        item = waiting.pop()
        if not is_plain_statement(item, width, names):
            return False
        for inner in plain_bodies(item):
            waiting.extend(list(inner))
    return True


def is_plain_statement(value, width, names):
    """Whether a value is a statement; of its bodies only that they are tuples."""
    if not begins_with_word(value) or STATEMENT_LENGTHS.get(value[0]) != len(value):
        return False
    if not all([isinstance(body, tuple) for body in plain_bodies(value)]):
        return False
    if value[0] == "set" and not (isinstance(value[1], str) and value[1] in names):
        return False
    e = value[2] if value[0] == "set" else value[1]
    if not is_expression(e, width):
        return False
    return all([kind == "var" and name in names for kind, name in uses(e)])


def plain_bodies(statement):
    """The bodies of a statement, in order."""
    return () if statement[0] == "set" else statement[2:]


def run_plain(program, values, *, fuel):
    """The tuple (outputs, end, steps, marks) of the run with the inputs at these values."""
    plain_run = PlainRun(program, values, fuel)
    end = plain_run.end()
    outputs = tuple([plain_run.look[name] for name in program[3]])
    return outputs, end, plain_run.steps, plain_run.marks


class PlainBody:
    """A body under way; owner is the statement for which it is done, or None."""

    def __init__(self, body, owner):
        self.body = body
        self.owner = owner
        self.begun = 0


class PlainRun:
    """A run of an ordinary program; the bodies under way stand on a stack of their own."""

    def __init__(self, program, values, fuel):
        self.width, names, inputs, _, body = program
        self.look = {name: 0 for name in names}
        for name, word in zip(inputs, values):
            self.look[name] = word
        self.fuel = fuel
        self.steps = 0
        self.marks = 0
        self.under_way = [PlainBody(body, None)]

    def end(self):
        """Go on as long as there is fuel, and return the end."""
        while self.under_way:
            last = self.under_way[-1]
            has_next = last.begun < len(last.body)
            if not has_next and (last.owner is None or last.owner[0] == "if"):
                self.under_way.pop()
                self.marks += 0 if last.owner is None else 1
            elif self.steps >= self.fuel:
                return ("none",)
            elif has_next:
                self.steps += 1
                last.begun += 1
                self.begin(last.body[last.begun - 1])
            else:
                # Behind its body a while looks at its expression again, as if it were begun.
                self.steps += 1
                self.under_way.pop()
                self.begin(last.owner)
        return ("done",)

    def value(self, expression):
        """The word of an expression."""
        return value_of(self.width, expression, self.look)

    def begin(self, statement):
        """Begin a statement; a set is finished by that, and so is a while whose expression is 0."""
        if statement[0] == "set":
            self.look[statement[1]] = self.value(statement[2])
            self.marks += 1
        elif statement[0] == "if":
            is_first = self.value(statement[1]) != 0
            self.under_way.append(PlainBody(statement[2] if is_first else statement[3], statement))
        elif self.value(statement[1]) != 0:
            self.under_way.append(PlainBody(statement[2], statement))
        else:
            self.marks += 1
