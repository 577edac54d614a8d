"""The code that works out expressions, and that brings the words of places."""

from backrun.instructions import REGISTERS
from backrun.programs import parts
from backrun.straight import (
    FIRST, FIRST_AT, FRAME, INDEX, INDEX_AT, OUT, PARTS_FROM, SECOND, SECOND_AT, SIZE,
    around, at_cell, fetch, whole_sum,
)
from backrun.words import top

# Ops that the machine has with two registers only: what they give is made by a change of a copy of the first word.
OF_TWO = ("add", "sub", "xor")


class Scope:
    """Where the names that are seen stand, with their sizes, and how many cells of the frame are in use."""

    def __init__(self, width, used):
        self.width = width
        self.places = {}
        self.sizes = {}
        self.used = used

    def within(self, name):
        """The scope of a local's body."""
        inner = Scope(self.width, self.used + 1)
        inner.places = dict(self.places)
        inner.sizes = dict(self.sizes)
        inner.put(name, 0, ("cell", self.used))
        return inner

    def put(self, name, size, place):
        """Note where a name stands."""
        self.places[name] = place
        self.sizes[name] = size


class Work:
    """The code that works out the parts of a statement's expressions.

    Each part that is neither a number nor a variable has a register or a cell of its own, which is 0 ahead of the
    code; undoing the whole code makes it 0 again.
    """

    def __init__(self, scope):
        self.scope = scope
        self.code = []
        self.registers = 0
        self.cells = 0

    def needed(self):
        """How many cells of the frame are in use for this work."""
        return self.scope.used + self.cells

    def operand(self, e):
        """Where the value of an expression is, behind the code."""
        if e[0] == "int":
            return ("number", e[1])
        if e[0] == "var":
            return self.scope.places[e[1]]
        inner = self.inner_operands(e)
        if PARTS_FROM + self.registers < REGISTERS:
            at = PARTS_FROM + self.registers
            self.registers += 1
            self.code.extend(self.op_code(e, inner, at))
            return ("register", at)
        offset = self.needed()
        self.cells += 1
        self.code.extend(self.op_code(e, inner, OUT) + at_cell(offset, OUT))
        return ("cell", offset)

    def inner_operands(self, e):
        """Where the values of an expression's parts are, behind the code."""
        return [self.operand(part) for part in parts(e)]

    def op_code(self, e, inner, out):
        """The code that changes a register that is 0 to the value of an expression, by those of its parts."""
        if e[0] == "cell":
            setup = self.cell_setup(e, inner[0], FIRST, FIRST_AT)
            return around(setup, [("xor", out, FIRST)])
        setup, first = fetch(inner[0], FIRST, FIRST_AT)
        if e[0] == "not":
            return around(setup, [("test", out, first), ("xori", out, 1)])
        second = first
        # Nothing can be fetched twice, but one register can be used twice.
        if inner[1] != inner[0]:
            more, second = fetch(inner[1], SECOND, SECOND_AT)
            setup = setup + more
        if e[0] in OF_TWO:
            return around(setup, [("xor", out, first), (e[0], out, second)])
        return around(setup, [(e[0], out, first, second)])

    def cell_setup(self, place, index, at, address):
        """The code that takes the word of an array's cell out into a register, by where the index is."""
        array, size = self.scope.places[place[1]], self.scope.sizes[place[1]]
        setup, where = fetch(index, INDEX, INDEX_AT)
        # A size that is no word of this width is greater than each index.
        if size <= top(self.scope.width):
            code = around(setup + [("xori", SIZE, size)], [("rem", address, where, SIZE)])
        else:
            code = around(setup, [("xor", address, where)])
        kind, offset = array
        if kind == "cell":
            return code + [("addr", address, FRAME), whole_sum(address, offset), ("exch", at, address)]
        return code + around(at_cell(offset, SIZE), [("addr", address, SIZE)]) + [("exch", at, address)]

    def index_of(self, place):
        """Where the index of a place is behind the code, or None if it has none."""
        return self.operand(place[2]) if place[0] == "cell" else None

    def place_setup(self, place, index, at, address):
        """The code that takes the word of a place out into a register."""
        if place[0] == "cell":
            return self.cell_setup(place, index, at, address)
        setup, _ = fetch(self.scope.places[place[1]], at, address)
        return setup
