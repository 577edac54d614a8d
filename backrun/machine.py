"""The reversible machine: its steps, forward and backward, its runs and its faults."""

from backrun.forms import is_integer
from backrun.instructions import WORD_BITS, instruction_fault
from backrun.words import compute, top

OPS = (
    "add", "sub", "xor", "addi", "xori", "and", "or", "mul", "less", "equal", "shl", "shr", "rem", "differ",
    "test", "swap", "exch", "addr", "subr", "addl", "neg", "over", "swapbr", "bra", "brz", "brn", "rbra",
    "skip", "halt", "fail",
)

SKIP = ("skip",)
GOING_ON = ("none",)
WHOLE = 4294967295


def machine_faults(value):
    """The ascending list of the pairs (address, code) of a value of any kind as a machine."""
    if not isinstance(value, tuple) or len(value) != 2:
        return [(-1, "form")]
    width, code = value
    if not is_integer(width, 1, WORD_BITS) or not isinstance(code, tuple):
        return [(-1, "form")]
    found = [(at, instruction_fault(instruction, width)) for at, instruction in enumerate(code)]
    return [(at, fault) for at, fault in found if fault is not None]


def compute_low(op, width, x, y):
    """The word that an op gives for the low parts of two words."""
    low = top(width)
    first, second = x & low, y & low
    if op == "rem":
        return first % second if second else 0
    if op == "differ":
        return 0 if first == second else 1
    return compute(op, width, first, second)


def step(machine, state):
    """The state behind a step."""
    core = Core(machine, state)
    core.forth()
    return core.state()


def back(machine, state):
    """The state from which a step leads to this one."""
    core = Core(machine, state)
    core.retrace()
    return core.state()


def run_machine(machine, state, *, fuel):
    """The triple (state, end, steps) behind at most so many steps as there is fuel."""
    core = Core(machine, state)
    steps = 0
    while steps < fuel and core.outcome() == GOING_ON:
        core.forth()
        steps += 1
    return core.state(), core.outcome(), steps


def run_back(machine, state, steps):
    """The state from which so many steps lead to this one."""
    core = Core(machine, state)
    for _ in range(steps):
        core.retrace()
    return core.state()


def change_low(core, at, word):
    """Give a register the low part of a word; its other bits stay."""
    old = core.registers[at]
    core.registers[at] = old ^ ((old ^ word) & core.low)


def do_add(core, instruction, sign):
    """add, done with sign 1 and undone with sign -1, as in all functions of ACTIONS."""
    _, d, s = instruction
    change_low(core, d, core.registers[d] + sign * core.registers[s])


def do_sub(core, instruction, sign):
    """sub."""
    _, d, s = instruction
    change_low(core, d, core.registers[d] - sign * core.registers[s])


def do_xor(core, instruction, sign):
    """xor."""
    _, d, s = instruction
    change_low(core, d, core.registers[d] ^ core.registers[s])


def do_addi(core, instruction, sign):
    """addi."""
    _, d, n = instruction
    change_low(core, d, core.registers[d] + sign * n)


def do_xori(core, instruction, sign):
    """xori."""
    _, d, n = instruction
    change_low(core, d, core.registers[d] ^ n)


def do_op(core, instruction, sign):
    """An op of two registers."""
    op, d, a, b = instruction
    word = compute_low(op, core.width, core.registers[a], core.registers[b])
    change_low(core, d, core.registers[d] ^ word)


def do_test(core, instruction, sign):
    """test."""
    _, d, a = instruction
    if core.registers[a] & core.low != 0:
        change_low(core, d, core.registers[d] ^ 1)


def do_swap(core, instruction, sign):
    """swap."""
    _, a, b = instruction
    word = core.registers[a]
    core.registers[a] = core.registers[b]
    core.registers[b] = word


def do_exch(core, instruction, sign):
    """exch."""
    _, a, b = instruction
    at = core.registers[b] % len(core.memory)
    word = core.registers[a]
    core.registers[a] = core.memory[at]
    core.memory[at] = word


def do_addr(core, instruction, sign):
    """addr."""
    _, d, s = instruction
    core.registers[d] = (core.registers[d] + sign * core.registers[s]) & WHOLE


def do_subr(core, instruction, sign):
    """subr."""
    _, d, s = instruction
    core.registers[d] = (core.registers[d] - sign * core.registers[s]) & WHOLE


def do_addl(core, instruction, sign):
    """addl."""
    _, d, m = instruction
    core.registers[d] = (core.registers[d] + sign * m) & WHOLE


def do_neg(core, instruction, sign):
    """neg."""
    _, r = instruction
    core.registers[r] = -core.registers[r] & WHOLE


def do_over(core, instruction, sign):
    """over."""
    _, d, a, m = instruction
    if core.registers[a] >= m:
        change_low(core, d, core.registers[d] ^ 1)


def do_swapbr(core, instruction, sign):
    """swapbr."""
    _, r = instruction
    word = core.registers[r]
    core.registers[r] = core.br
    core.br = word


def do_bra(core, instruction, sign):
    """bra."""
    _, off = instruction
    core.br = (core.br + sign * off) & WHOLE


def do_brz(core, instruction, sign):
    """brz."""
    _, r, off = instruction
    if core.registers[r] & core.low == 0:
        core.br = (core.br + sign * off) & WHOLE


def do_brn(core, instruction, sign):
    """brn."""
    _, r, off = instruction
    if core.registers[r] & core.low != 0:
        core.br = (core.br + sign * off) & WHOLE


def do_rbra(core, instruction, sign):
    """rbra; it turns the direction, and with it the sign with which it is undone."""
    _, off = instruction
    core.br = (-(core.br + off) if sign == 1 else off - core.br) & WHOLE
    core.direction = -core.direction


def do_nothing(core, instruction, sign):
    """skip, halt and fail."""


ACTIONS = {
    "add": do_add, "sub": do_sub, "xor": do_xor, "addi": do_addi, "xori": do_xori,
    "and": do_op, "or": do_op, "mul": do_op, "less": do_op, "equal": do_op, "shl": do_op, "shr": do_op,
    "rem": do_op, "differ": do_op, "test": do_test, "swap": do_swap, "exch": do_exch, "addr": do_addr,
    "subr": do_subr, "addl": do_addl, "neg": do_neg, "over": do_over, "swapbr": do_swapbr, "bra": do_bra,
    "brz": do_brz, "brn": do_brn, "rbra": do_rbra, "skip": do_nothing, "halt": do_nothing, "fail": do_nothing,
}


class Core:
    """A state that changes, with the machine that changes it."""

    def __init__(self, machine, state):
        self.width, self.program_code = machine
        self.low = top(self.width)
        registers, self.pc, self.br, self.direction, memory = state
        self.registers = list(registers)
        self.memory = list(memory)

    def state(self):
        """The state as it is now."""
        return (tuple(self.registers), self.pc, self.br, self.direction, tuple(self.memory))

    def here(self):
        """The instruction at pc."""
        return self.program_code[self.pc] if self.pc < len(self.program_code) else SKIP

    def outcome(self):
        """The end of a run that is here, or that of one that goes on."""
        if self.br != 0:
            return GOING_ON
        instruction = self.here()
        return instruction if instruction[0] in ("halt", "fail") else GOING_ON

    def act(self, sign):
        """Do the instruction at pc, or undo it if the sign is -1."""
        instruction = self.here()
        action = ACTIONS[instruction[0]]
        action(self, instruction, sign)

    def forth(self):
        """Take a step."""
        self.act(self.direction)
        self.pc = (self.pc + self.direction * (self.br or 1)) & WHOLE

    def retrace(self):
        """Take a step back."""
        self.pc = (self.pc - self.direction * (self.br or 1)) & WHOLE
        self.act(-self.direction)
