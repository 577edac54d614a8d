"""The code of the bodies of procedures."""

from backrun.straight import (
    FIRST, FIRST_AT, FRAME, SECOND, SECOND_AT, TEST, around, at_cell, fetch, pressed, undo, whole_sum,
)
from backrun.work import Work

CHANGES = {"plus": "add", "minus": "sub", "xor": "xor"}


class Fails:
    """The words and paths of the fail instructions, by their numbers."""

    def __init__(self):
        self.numbers = {}

    def number(self, word, path):
        """The number of the fail instructions for a word and a path."""
        return self.numbers.setdefault((word, path), len(self.numbers))

    def rows(self):
        """The tuple of the words and paths."""
        return tuple(list(self.numbers))


class Emitter:
    """Makes the code of one procedure; extent is the number of cells that its frame ever needs.

    Each piece of code may be run from both ends. Beside instructions of the machine it has ("call", name) and
    ("uncall", name) for a branch to a procedure, and ("room", name, used) for the test whether the procedure's frame
    ends behind the memory, if it begins so many cells behind the beginning of this one's.
    """

    def __init__(self, fails, extent):
        self.fails = fails
        self.extent = extent

    def body_code(self, body, prefix, scope):
        """The code of a body."""
        code = []
        for at, statement in enumerate(body):
            code.extend(self.statement_code(statement, prefix + (at,), scope))
        return code

    def statement_code(self, statement, path, scope):
        """The code of a statement."""
        word = statement[0]
        if word in CHANGES:
            return self.change_code(statement, scope)
        if word == "swap":
            return self.swap_code(statement, scope)
        if word == "if":
            return self.if_code(statement, path, scope)
        if word == "loop":
            return self.loop_code(statement, path, scope)
        if word == "local":
            return self.local_code(statement, path, scope)
        if word == "skip":
            return []
        return self.call_code(statement, path, scope)

    def reserve(self, work):
        """Note the cells that a work uses."""
        self.extent = max(self.extent, work.needed())

    def change_code(self, statement, scope):
        """The code of a plus, minus or xor."""
        word, place, expression = statement
        work = Work(scope)
        index = work.index_of(place)
        value = work.operand(expression)
        self.reserve(work)
        # The place comes first: the variable that is fetched for the value may be its index, too.
        setup = work.code + work.place_setup(place, index, FIRST, FIRST_AT)
        more, at = fetch(value, SECOND, SECOND_AT)
        return around(setup + more, [(CHANGES[word], FIRST, at)])

    def swap_code(self, statement, scope):
        """The code of a swap."""
        _, one, other = statement
        work = Work(scope)
        one_index, other_index = work.index_of(one), work.index_of(other)
        self.reserve(work)
        setup = work.code + work.place_setup(one, one_index, FIRST, FIRST_AT)
        return around(setup + work.place_setup(other, other_index, SECOND, SECOND_AT), [("swap", FIRST, SECOND)])

    def test_code(self, e, scope):
        """The code that turns TEST if an expression is not 0."""
        work = Work(scope)
        if e[0] in ("not", "less", "equal"):
            # These give 0 or 1, so that TEST can be changed at once.
            inner = work.inner_operands(e)
            middle = work.op_code(e, inner, TEST)
            setup = work.code
        else:
            more, at = fetch(work.operand(e), FIRST, FIRST_AT)
            middle = [("test", TEST, at)]
            setup = work.code + more
        self.reserve(work)
        return around(setup, middle)

    def check(self, word, path):
        """The code that fails if TEST is not 0, from whichever side it is reached."""
        return [("brz", TEST, 2), ("fail", self.fails.number(word, path)), ("brz", TEST, -2)]

    def if_code(self, statement, path, scope):
        """The code of an if. TEST is 0 within the bodies, and tells at their ends which one it was."""
        _, early, first, second, late = statement
        check = self.check("exit", path)
        one = self.body_code(first, path + (0,), scope)
        other = self.body_code(second, path + (1,), scope)
        to_other, to_end = len(one) + 4, len(other) + 2
        return (
            check + self.test_code(early, scope)
            + [("brz", TEST, to_other), ("xori", TEST, 1)] + one + [("xori", TEST, 1), ("bra", to_end)]
            + [("bra", -to_other)] + other + [("brn", TEST, -to_end)]
            + self.test_code(late, scope) + check
        )

    def loop_code(self, statement, path, scope):
        """The code of a loop. TEST is 1 where the loop is entered and left, and 0 within its bodies."""
        _, early, first, second, late = statement
        check = self.check("entry", path)
        one = (
            self.test_code(early, scope) + check
            + self.body_code(first, path + (0,), scope)
            + check + self.test_code(late, scope)
        )
        other = self.body_code(second, path + (1,), scope)
        to_begin, to_end = len(one) + len(other) + 2, len(other) + 2
        return (
            [("xori", TEST, 1), ("brz", TEST, to_begin)] + one
            + [("brn", TEST, to_end)] + other + [("bra", -to_begin)]
            + [("bra", -to_end), ("xori", TEST, 1)]
        )

    def local_code(self, statement, path, scope):
        """The code of a local."""
        _, name, early, body, late = statement
        inner = scope.within(name)
        check = self.check("local", path)
        begin = undo(self.end_of_local(early, inner, scope.used))
        end = self.end_of_local(late, inner, scope.used)
        return check + begin + self.body_code(body, path + (0,), inner) + end + check

    def end_of_local(self, e, scope, offset):
        """The code that takes a variable out of its cell; TEST is 0 behind it if it had the value of an expression."""
        work = Work(scope)
        setup, at = fetch(work.operand(e), FIRST, FIRST_AT)
        self.reserve(work)
        return pressed(at_cell(offset, TEST) + around(work.code + setup, [("xor", TEST, at)]))

    def call_code(self, statement, path, scope):
        """The code of a call or uncall."""
        word, name, names = statement
        check = self.check("frame", path)
        room = [("room", name, scope.used)]
        passing = []
        for at, passed in enumerate(names):
            passing.extend(pass_address(scope.places[passed], scope.used + 1 + at))
        passing = pressed(passing + [whole_sum(FRAME, scope.used)])
        return room + check + passing + [(word, name)] + undo(passing) + check + room


def pass_address(place, offset):
    """The code that brings the address of a name into a cell."""
    kind, number = place
    if kind == "cell":
        code = [("addr", FIRST, FRAME), whole_sum(FIRST, number)]
    else:
        code = around(at_cell(number, SECOND), [("addr", FIRST, SECOND)])
    return code + at_cell(offset, FIRST)


def procedure_code(body):
    """The code of a procedure around that of its body; it is entered and left at its third instruction.

    The offset from the call comes in br, and stands in the frame's first cell as long as the body is done. Whichever
    end of the body is reached, the branches between the first and the last instruction lead to where it is left.
    """
    length = len(body) + 5
    keep = [("exch", FIRST, FRAME)]
    return [("bra", length)] + keep + [("swapbr", FIRST), ("neg", FIRST)] + keep + body + [("bra", -length)]
