"""Compiled programs: the machine for a program."""

from backrun.emit import Emitter, Fails, procedure_code
from backrun.straight import FRAME, TEST, WHOLE
from backrun.work import Scope

# Where a procedure's code is entered.
ENTRY = 2


def compile_program(program, *, cells=4096):
    """The build (machine, places, fails) of a program, for a memory of so many cells."""
    width, declared, procedures = program
    places, total = global_places(declared)
    fails = Fails()
    extents = {}
    codes = {}
    for at, (name, params, body) in enumerate(procedures):
        if name == "main":
            scope = main_scope(width, declared, places, total)
        else:
            scope = procedure_scope(width, params)
        emitter = Emitter(fails, scope.used)
        codes[name] = emitter.body_code(body, (at,), scope)
        extents[name] = emitter.extent
    if total + extents["main"] > cells:
        return ((width, (("fail", 0),)), places, (("frame", ()),))
    code = Link(extents, cells).joined(codes, total)
    return ((width, code), places, fails.rows())


def global_places(declared):
    """The tuple of the addresses of the globals, and the address behind them."""
    places = []
    behind = 0
    for _, size in declared:
        places.append(behind)
        behind += max(size, 1)
    return tuple(places), behind


def main_scope(width, declared, places, total):
    """The scope of main. Its frame begins behind the globals, so that they are cells ahead of its beginning."""
    scope = Scope(width, 1)
    for (name, size), place in zip(declared, places):
        scope.put(name, size, ("cell", place - total))
    return scope


def procedure_scope(width, params):
    """The scope of another procedure: behind the return offset stand the addresses of what was passed."""
    scope = Scope(width, 1 + len(params))
    for at, (name, size) in enumerate(params):
        scope.put(name, size, ("passed", 1 + at))
    return scope


class Link:
    """Puts the codes of the procedures together."""

    def __init__(self, extents, cells):
        self.extents = extents
        self.cells = cells
        self.starts = {}

    def joined(self, codes, total):
        """The whole code, from the codes of the procedures' bodies; main's frame begins behind so many cells."""
        code = [("addl", FRAME, total)] + codes["main"] + [("addl", FRAME, -total & WHOLE), ("halt",)]
        for name, body in codes.items():
            if name != "main":
                self.starts[name] = len(code)
                code.extend(procedure_code(body))
        return tuple([self.settled(instruction, at) for at, instruction in enumerate(code)])

    def settled(self, instruction, at):
        """The instruction of the machine that stands for one at an address."""
        word = instruction[0]
        if word == "call":
            return ("bra", self.starts[instruction[1]] + ENTRY - at)
        if word == "uncall":
            return ("rbra", self.starts[instruction[1]] + ENTRY - at)
        if word == "room":
            _, name, used = instruction
            return ("over", TEST, FRAME, self.first_without_room(used + self.extents[name]))
        return instruction

    def first_without_room(self, needed):
        """The least address from which on so many cells would end behind the memory."""
        return min(max(self.cells - needed + 1, 0), WHOLE)
