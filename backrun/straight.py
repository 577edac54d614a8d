"""Straight pieces of the machine's code, without branches, and the code that undoes them."""

OPPOSITES = {"add": "sub", "sub": "add", "addr": "subr", "subr": "addr"}
WHOLE = 4294967295

# What the registers are for. FRAME has the address of the frame; TEST the outcome of a test; FIRST and SECOND what
# is worked with, INDEX the index of a cell, each with a register for the address where it was fetched; SIZE an
# array's size or address; OUT what goes to a cell. From PARTS_FROM on they have the values of parts of expressions.
FRAME = 0
TEST = 1
FIRST = 2
FIRST_AT = 3
SECOND = 4
SECOND_AT = 5
INDEX = 6
INDEX_AT = 7
SIZE = 8
OUT = 9
PARTS_FROM = 10


def opposite(instruction):
    """The instruction that undoes one of a straight piece."""
    word = instruction[0]
    if word in OPPOSITES:
        return (OPPOSITES[word],) + instruction[1:]
    if word == "addl":
        return whole_sum(instruction[1], -instruction[2])
    return instruction


def whole_sum(at, number):
    """The instruction that adds a number, also one below 0, to a whole register."""
    return ("addl", at, number & WHOLE)


def undo(code):
    """The code that undoes a straight piece."""
    return [opposite(instruction) for instruction in reversed(code)]


def around(setup, middle):
    """A setup, what stands in the middle, and what undoes the setup."""
    return pressed(setup + middle + undo(setup))


def pressed(code):
    """A straight piece without neighbours that undo each other, and with one sum instead of two of one register."""
    kept = []
    for instruction in code:
        last = kept[-1] if kept else ("skip",)
        if last == opposite(instruction):
            kept.pop()
        elif instruction[0] == "addl" and instruction[2] == 0:
            continue
        elif last[0] == "addl" and instruction[0] == "addl" and last[1] == instruction[1]:
            kept[-1] = whole_sum(last[1], last[2] + instruction[2])
        else:
            kept.append(instruction)
    return kept


def at_cell(offset, at):
    """The code that exchanges a register with a cell of the frame."""
    return around([whole_sum(FRAME, offset)], [("exch", at, FRAME)])


def fetch(where, at, address):
    """The pair of code and the register that has a value behind it.

    A value is in a register, it is a number, or it is in a cell of the frame, or in one whose address was passed.
    From a cell it is taken out, so that nothing is fetched twice before it is brought back by undoing the code.
    """
    kind, number = where
    if kind == "register":
        return [], number
    if kind == "number":
        return [("xori", at, number)] if number else [], at
    if kind == "cell":
        return at_cell(number, at), at
    return at_cell(number, address) + [("exch", at, address)], at
