import copy
import random
import unittest

from backrun.machine import OPS, back, compute_low, machine_faults, run_back, run_machine, step
from tests.machine_oracle import OF_TWO, oracle_step

ALL = 2 ** 32
MINUS_3 = ALL - 3

WORDS = (
    "add", "sub", "xor", "addi", "xori", "and", "or", "mul", "less", "equal", "shl", "shr", "rem", "differ", "test",
    "swap", "exch", "addr", "subr", "addl", "neg", "over", "swapbr", "bra", "brz", "brn", "rbra", "skip", "halt", "fail",
)

# The kinds of the parts: a register, a data word, a whole word, an offset, the number of a fail.
KINDS = {
    "add": "rr", "sub": "rr", "xor": "rr", "addi": "rn", "xori": "rn", "and": "rrr", "or": "rrr", "mul": "rrr",
    "less": "rrr", "equal": "rrr", "shl": "rrr", "shr": "rrr", "rem": "rrr", "differ": "rrr", "test": "rr",
    "swap": "rr", "exch": "rr", "addr": "rr", "subr": "rr", "addl": "rm", "neg": "r", "over": "rrm", "swapbr": "r",
    "bra": "o", "brz": "ro", "brn": "ro", "rbra": "o", "skip": "", "halt": "", "fail": "k",
}

OTHERS = (None, True, False, 0, 1, -1, "", "skip", b"", (), (1, 2), [], ["skip"], {}, 1.5, (None,), ((), ()))


def registers(*low):
    return tuple(low) + (0,) * (16 - len(low))


def state(low=(), pc=0, br=0, direction=1, memory=(0,)):
    return (registers(*low), pc, br, direction, tuple(memory))


def example(word, chance, width):
    """An instruction of a word."""
    if word == "fail":
        return ("fail", chance.choice((0, 1, 77)))
    chosen = chance.sample(range(16), 3)
    if word in OF_TWO and chance.random() < 0.2:
        chosen[2] = chosen[1]
    numbers = {
        "n": chance.choice((0, 1, 2 ** width - 1, chance.randrange(2 ** width))),
        "m": chance.choice((0, 1, ALL - 1, chance.randrange(ALL))),
        "o": chance.choice((0, 1, -1, 5, -7, 2 ** 31 - 1, -2 ** 31, chance.randrange(-2 ** 31, 2 ** 31))),
    }
    parts = [chosen[at] if kind == "r" else numbers[kind] for at, kind in enumerate(KINDS[word])]
    return (word,) + tuple(parts)


def any_word(chance, width):
    """A word of 32 bits, often with the bits above the low ones 0, often a small one."""
    return chance.choice((0, 1, 2, 2 ** width - 1, chance.randrange(2 ** width), chance.randrange(ALL), ALL - 1,
                          2 ** 31, chance.randrange(ALL) >> width << width if width < 32 else 0))


def any_state(chance, width, longest=5):
    words = tuple(any_word(chance, width) for _ in range(16))
    memory = tuple(any_word(chance, width) for _ in range(chance.randrange(1, longest)))
    pc = chance.choice((0, 0, 1, 2, ALL - 1, chance.randrange(ALL)))
    br = chance.choice((0, 0, 1, ALL - 1, 5, MINUS_3, chance.randrange(ALL)))
    return (words, pc, br, chance.choice((1, -1)), memory)


class Words(unittest.TestCase):
    def test_ops(self):
        self.assertEqual(OPS, WORDS)

    def test_compute_low(self):
        for op, width, x, y, word in (
            ("and", 8, 12, 10, 8), ("or", 8, 12, 10, 14), ("mul", 8, 16, 17, 16), ("less", 8, 1, 2, 1),
            ("less", 8, 2, 2, 0), ("equal", 8, 2, 2, 1), ("equal", 8, 2, 3, 0), ("shl", 8, 3, 7, 128), ("shl", 8, 3, 8, 0),
            ("shl", 32, 1, 2 ** 32 - 1, 0), ("shr", 8, 255, 7, 1), ("shr", 8, 255, 8, 0), ("shr", 8, 255, 9, 0),
            ("rem", 8, 17, 5, 2), ("rem", 8, 17, 0, 0), ("rem", 8, 4, 5, 4), ("rem", 8, 17, 1, 0),
            ("differ", 8, 2, 3, 1), ("differ", 8, 3, 3, 0), ("mul", 1, 1, 1, 1), ("shl", 1, 1, 1, 0), ("shr", 1, 1, 1, 0),
            ("shl", 1, 1, 0, 1), ("mul", 32, 65536, 65536, 0), ("rem", 32, 2 ** 32 - 1, 10, 5), ("rem", 1, 1, 1, 0),
        ):
            self.assertEqual(compute_low(op, width, x, y), word, (op, width, x, y))

    def test_only_low_parts_count(self):
        self.assertEqual(compute_low("equal", 8, 256 + 5, 512 + 5), 1)
        self.assertEqual(compute_low("differ", 8, 256 + 5, 512 + 5), 0)
        self.assertEqual(compute_low("less", 8, 256 + 5, 6), 1)
        self.assertEqual(compute_low("rem", 8, 17, 256), 0)
        self.assertEqual(compute_low("shr", 8, 0xff80, 7), 1)
        self.assertEqual(compute_low("shl", 8, 1, 256 + 1), 2)


class Steps(unittest.TestCase):
    """The first row of each pair is done by direction 1; direction -1 leads from the second one back to it."""

    def both(self, instruction, before, behind, width=8, memory=(0,), memory_behind=None):
        machine = (width, (("skip",), ("skip",), instruction, ("skip",), ("skip",)))
        self.assertEqual(machine_faults(machine), [])
        later = memory if memory_behind is None else memory_behind
        first = state(before, 2, 0, 1, memory)
        self.assertEqual(step(machine, first), state(behind, 3, 0, 1, later))
        self.assertEqual(back(machine, state(behind, 3, 0, 1, later)), first)
        turned = state(behind, 2, 0, -1, later)
        self.assertEqual(step(machine, turned), state(before, 1, 0, -1, memory))
        self.assertEqual(back(machine, state(before, 1, 0, -1, memory)), turned)

    def test_low_parts(self):
        for high in (0, 256, 0xabcdef00):
            self.both(("add", 0, 1), (high + 200, 100), (high + 44, 100))
            self.both(("add", 0, 1), (high + 200, 0x500 + 100), (high + 44, 0x500 + 100))
            self.both(("sub", 0, 1), (high + 1, 2), (high + 255, 2))
            self.both(("sub", 0, 1), (high + 1, 0xffffff02), (high + 255, 0xffffff02))
            self.both(("xor", 1, 0), (0x70c, high + 10), (0x70c, high + 6))
            self.both(("addi", 0, 255), (high + 3,), (high + 2,))
            self.both(("addi", 0, 0), (high + 3,), (high + 3,))
            self.both(("xori", 0, 255), (high + 3,), (high + 252,))
            self.both(("test", 0, 1), (high + 6, 1), (high + 7, 1))
            self.both(("test", 0, 1), (high + 6, 0x300), (high + 6, 0x300))

    def test_low_parts_at_other_widths(self):
        self.both(("add", 0, 1), (ALL - 1, ALL - 1), (ALL - 2, ALL - 1), width=1)
        self.both(("add", 0, 1), (0, 1), (1, 1), width=1)
        self.both(("add", 0, 1), (ALL - 1, 5), (4, 5), width=32)
        self.both(("sub", 0, 1), (4, 5), (ALL - 1, 5), width=32)
        self.both(("sub", 0, 1), (6, 7), (7, 7), width=1)
        self.both(("xori", 0, 1), (6,), (7,), width=1)
        self.both(("addi", 0, ALL - 1), (6,), (5,), width=32)
        self.both(("addi", 0, 1), (7,), (6,), width=1)
        self.both(("test", 0, 1), (0, 2 ** 31), (1, 2 ** 31), width=32)
        self.both(("test", 0, 1), (0, 2 ** 31), (0, 2 ** 31), width=31)

    def test_ops_of_two(self):
        for high in (0, 256, 0xabcdef00):
            for op, x, y, word in (
                ("and", 12, 10, 8), ("or", 12, 10, 14), ("mul", 16, 17, 16), ("less", 1, 2, 1), ("less", 2, 1, 0),
                ("equal", 7, 7, 1), ("equal", 7, 6, 0), ("shl", 3, 7, 128), ("shl", 3, 8, 0), ("shl", 3, 255, 0),
                ("shr", 255, 7, 1), ("shr", 255, 8, 0), ("shr", 255, 255, 0), ("rem", 17, 5, 2), ("rem", 17, 0, 0),
                ("differ", 7, 7, 0), ("differ", 7, 6, 1),
            ):
                for was in (0, 0xa5):
                    before = (high + x, 0x3300 + y, high + was)
                    self.both((op, 2, 0, 1), before, before[:2] + (high + (was ^ word),))
        self.both(("mul", 0, 1, 1), (1, 5), (24, 5))
        self.both(("differ", 0, 1, 1), (1, 5), (1, 5))
        self.both(("shl", 2, 0, 1), (1, 31, 0), (1, 31, 2 ** 31), width=32)
        self.both(("shl", 2, 0, 1), (1, 32, 0), (1, 32, 0), width=32)
        self.both(("shl", 2, 0, 1), (1, ALL - 1, 0), (1, ALL - 1, 0), width=32)
        self.both(("and", 2, 0, 1), (3, 5, 2), (3, 5, 3), width=1)

    def test_whole_words(self):
        for width in (1, 8, 32):
            self.both(("swap", 0, 1), (0xabcdef12, 3), (3, 0xabcdef12), width)
            self.both(("addr", 0, 1), (0xffffffff, 0x10001), (0x10000, 0x10001), width)
            self.both(("subr", 0, 1), (0x10000, 0x10001), (0xffffffff, 0x10001), width)
            self.both(("addl", 0, 0xfffffffe), (5,), (3,), width)
            self.both(("addl", 0, 0x12345678), (0x1,), (0x12345679,), width)
            self.both(("neg", 0), (5,), (ALL - 5,), width)
            self.both(("neg", 0), (0,), (0,), width)
            self.both(("neg", 0), (2 ** 31,), (2 ** 31,), width)

    def test_over(self):
        for width in (1, 8, 32):
            self.both(("over", 0, 1, 1000), (6, 999), (6, 999), width)
            self.both(("over", 0, 1, 1000), (6, 1000), (7, 1000), width)
            self.both(("over", 0, 1, 1000), (0x701, ALL - 1), (0x700, ALL - 1), width)
            self.both(("over", 0, 1, 0), (0, 0), (1, 0), width)
            self.both(("over", 0, 1, ALL - 1), (0, ALL - 2), (0, ALL - 2), width)
            self.both(("over", 0, 1, ALL - 1), (0, ALL - 1), (1, ALL - 1), width)

    def test_exch(self):
        for width in (1, 8, 32):
            self.both(("exch", 0, 1), (0xabcdef12, 2), (7, 2), width, (5, 6, 7), (5, 6, 0xabcdef12))
            self.both(("exch", 0, 1), (9, 3), (5, 3), width, (5, 6, 7), (9, 6, 7))
            self.both(("exch", 0, 1), (9, ALL - 1), (5, ALL - 1), width, (5, 6, 7), (9, 6, 7))
            self.both(("exch", 0, 1), (9, 0x10001), (7, 0x10001), width, (5, 6, 7), (5, 6, 9))
            self.both(("exch", 1, 0), (77, 9), (77, 5), width, (5,), (9,))

    def test_nothing(self):
        for instruction in (("skip",), ("halt",), ("fail", 3), ("fail", 0)):
            self.both(instruction, (1, 2, 3), (1, 2, 3))

    def test_registers_up_to_the_last(self):
        before = tuple(range(100, 116))
        for d in range(16):
            behind = before[:d] + (before[d] + 7,) + before[d + 1:]
            self.both(("addi", d, 7), before, behind)


class Branches(unittest.TestCase):
    def leads(self, instruction, first, last, width=8, at=10):
        """The step, and the steps back; at the address an instruction among skips."""
        machine = (width, (("skip",),) * at + (instruction,) + (("skip",),) * 10)
        self.assertEqual(machine_faults(machine), [])
        self.assertEqual(step(machine, first), last)
        self.assertEqual(back(machine, last), first)

    def test_bra(self):
        self.leads(("bra", 4), state(pc=10), state(pc=14, br=4))
        self.leads(("bra", -4), state(pc=10), state(pc=6, br=ALL - 4))
        self.leads(("bra", 4), state(pc=10, direction=-1), state(pc=14, br=ALL - 4, direction=-1))
        self.leads(("bra", -4), state(pc=10, direction=-1), state(pc=6, br=4, direction=-1))
        # it ends a branch that leads here
        self.leads(("bra", -4), state(pc=10, br=4), state(pc=11))
        self.leads(("bra", 4), state(pc=10, br=4, direction=-1), state(pc=9, direction=-1))
        self.leads(("bra", 3), state(pc=10, br=2), state(pc=15, br=5))
        self.leads(("bra", 0), state(pc=10), state(pc=11))
        self.leads(("bra", 2 ** 31 - 1), state(pc=10, br=2 ** 31), state(pc=9, br=ALL - 1))
        self.leads(("bra", -2 ** 31), state(pc=10), state(pc=10 + 2 ** 31, br=2 ** 31))

    def test_conditions(self):
        for word, taken in (("brz", (0, 256, 0xabcdef00)), ("brn", (1, 255, 0xabcdef01))):
            left = (1, 255, 0x101) if word == "brz" else (0, 256, 0xabcdef00)
            for r0 in taken:
                self.leads((word, 0, 4), state((r0,), 10), state((r0,), 14, 4))
                self.leads((word, 0, -4), state((r0,), 10, 4), state((r0,), 11))
                self.leads((word, 0, 4), state((r0,), 10, 0, -1), state((r0,), 14, ALL - 4, -1))
                self.leads((word, 0, 4), state((r0,), 10, 4, -1), state((r0,), 9, 0, -1))
            for r0 in left:
                self.leads((word, 0, 4), state((r0,), 10), state((r0,), 11))
                self.leads((word, 0, 4), state((r0,), 10, 4), state((r0,), 14, 4))
                self.leads((word, 0, 4), state((r0,), 10, 0, -1), state((r0,), 9, 0, -1))
        self.leads(("brz", 0, 4), state((2,), 10), state((2,), 14, 4), width=1)
        self.leads(("brz", 0, 4), state((2 ** 31,), 10), state((2 ** 31,), 11), width=32)
        self.leads(("brn", 0, 4), state((2 ** 31,), 10), state((2 ** 31,), 11), width=31)

    def test_rbra(self):
        self.leads(("rbra", 4), state(pc=10), state(pc=14, br=ALL - 4, direction=-1))
        self.leads(("rbra", -4), state(pc=10), state(pc=6, br=4, direction=-1))
        self.leads(("rbra", 4), state(pc=10, direction=-1), state(pc=14, br=4))
        self.leads(("rbra", -4), state(pc=10, direction=-1), state(pc=6, br=ALL - 4))
        # behind a procedure that came back with the opposite offset
        self.leads(("rbra", 4), state(pc=10, br=ALL - 4), state(pc=9, direction=-1))
        self.leads(("rbra", 4), state(pc=10, br=4, direction=-1), state(pc=11))
        self.leads(("rbra", 4), state(pc=10, br=3), state(pc=17, br=ALL - 7, direction=-1))
        self.leads(("rbra", 4), state(pc=10, br=3, direction=-1), state(pc=11, br=1))
        self.leads(("rbra", 0), state(pc=10), state(pc=9, direction=-1))
        self.leads(("rbra", 0), state(pc=10, direction=-1), state(pc=11))

    def test_swapbr(self):
        self.leads(("swapbr", 0), state((5,), 10), state((0,), 15, 5))
        self.leads(("swapbr", 0), state((0,), 10, 5), state((5,), 11, 0))
        self.leads(("swapbr", 0), state((MINUS_3,), 10, 5), state((5,), 7, MINUS_3))
        self.leads(("swapbr", 0), state((5,), 10, 0, -1), state((0,), 5, 5, -1))
        self.leads(("swapbr", 0), state((0,), 10, 5, -1), state((5,), 9, 0, -1))

    def test_br_stays_as_it_is(self):
        for br in (1, 3, MINUS_3, 2 ** 31):
            self.leads(("skip",), state(pc=10, br=br), state(pc=(10 + br) % ALL, br=br))
            self.leads(("skip",), state(pc=10, br=br, direction=-1), state(pc=(10 - br) % ALL, br=br, direction=-1))
            self.leads(("halt",), state(pc=10, br=br), state(pc=(10 + br) % ALL, br=br))
            self.leads(("addi", 0, 1), state((0,), 10, br), state((1,), (10 + br) % ALL, br))

    def test_behind_the_code(self):
        machine = (8, (("addi", 0, 1),))
        for pc in (1, 2, 1000, 2 ** 31, ALL - 2):
            self.assertEqual(step(machine, state((7,), pc)), state((7,), pc + 1))
            self.assertEqual(step(machine, state((7,), pc, 0, -1)), state((7,) if pc else (6,), pc - 1, 0, -1))
            self.assertEqual(back(machine, state((7,), pc + 1)), state((7,), pc))
        self.assertEqual(step((8, ()), state(pc=0)), state(pc=1))

    def test_around_the_edge(self):
        machine = (8, (("addi", 0, 1),))
        self.assertEqual(step(machine, state(pc=ALL - 1)), state(pc=0))
        self.assertEqual(back(machine, state(pc=0)), state(pc=ALL - 1))
        self.assertEqual(step(machine, state((7,), 0, 0, -1)), state((6,), ALL - 1, 0, -1))
        self.assertEqual(back(machine, state((6,), ALL - 1, 0, -1)), state((7,), 0, 0, -1))
        self.assertEqual(step(machine, state((7,), ALL - 2, 5)), state((7,), 3, 5))
        self.assertEqual(step(machine, state((7,), 0, MINUS_3)), state((8,), MINUS_3, MINUS_3))
        self.assertEqual(step(machine, state((7,), 0, MINUS_3, -1)), state((6,), 3, MINUS_3, -1))


class ThereAndBack(unittest.TestCase):
    def test_all_instructions(self):
        chance = random.Random(5)
        for width in (1, 8, 32, 7, 31):
            for word in WORDS:
                for _ in range(60):
                    instruction = example(word, chance, width)
                    machine = (width, (instruction,) * chance.choice((1, 3)))
                    self.assertEqual(machine_faults(machine), [])
                    here = any_state(chance, width)
                    before = copy.deepcopy((machine, here))
                    there = step(machine, here)
                    self.assertEqual(there, oracle_step(machine, here), (machine, here))
                    self.assertEqual(back(machine, there), here)
                    self.assertEqual(step(machine, back(machine, here)), here)
                    self.assertEqual(oracle_step(machine, back(machine, here)), here)
                    self.assertEqual((machine, here), before)
                    for value in (there, there[0], there[4]):
                        self.assertIs(type(value), tuple)

    def test_random_code(self):
        for seed in range(300):
            chance = random.Random(seed)
            width = chance.choice((1, 3, 8, 32))
            code = tuple(example(chance.choice(WORDS[:-2]), chance, width) for _ in range(6))
            code += tuple(("bra", chance.randrange(-5, 6)) for _ in range(2))
            machine = (width, tuple(chance.sample(code, len(code))))
            here = any_state(chance, width)
            there = here
            for _ in range(40):
                there = oracle_step(machine, there)
            self.assertEqual(run_machine(machine, here, fuel=40), (there, ("none",), 40))
            self.assertEqual(run_back(machine, there, 40), here)


class Runs(unittest.TestCase):
    # counts r0 from 0 up to what r1 has, one turn after the other
    loop = (8, (
        ("xori", 2, 1), ("brz", 2, 5), ("equal", 2, 0, 4), ("addi", 0, 1), ("equal", 2, 0, 1), ("brn", 2, 2),
        ("bra", -5), ("bra", -2), ("xori", 2, 1), ("halt",),
    ))

    def test_halt(self):
        machine = (8, (("addi", 0, 1), ("addi", 0, 2), ("halt",), ("addi", 0, 4)))
        last = state((3,), 2)
        self.assertEqual(run_machine(machine, state(), fuel=2), (last, ("halt",), 2))
        for fuel in (3, 100, 10 ** 9):
            self.assertEqual(run_machine(machine, state(), fuel=fuel), (last, ("halt",), 2))
        self.assertEqual(run_machine(machine, state(), fuel=1), (state((1,), 1), ("none",), 1))
        self.assertEqual(run_machine(machine, state(), fuel=0), (state(), ("none",), 0))
        for fuel in (0, 1, 9):
            self.assertEqual(run_machine(machine, last, fuel=fuel), (last, ("halt",), 0))

    def test_fail(self):
        for k in (0, 1, 12345678901234567890):
            machine = (8, (("addi", 0, 1), ("fail", k), ("halt",)))
            self.assertEqual(run_machine(machine, state(), fuel=9), (state((1,), 1), ("fail", k), 1))
            self.assertEqual(run_machine(machine, state(), fuel=1), (state((1,), 1), ("fail", k), 1))
            self.assertEqual(run_machine(machine, state(), fuel=0), (state(), ("none",), 0))
            self.assertEqual(run_machine(machine, state(pc=1), fuel=0), (state(pc=1), ("fail", k), 0))

    def test_none(self):
        self.assertEqual(run_machine((8, ()), state(), fuel=50), (state(pc=50), ("none",), 50))
        turning = (8, (("rbra", 0), ("skip",)))
        self.assertEqual(run_machine(turning, state(), fuel=1)[0], state(pc=ALL - 1, direction=-1))

    def test_halts_and_fails_that_are_passed(self):
        # with br not 0 they are like skip
        machine = (8, (("bra", 2), ("skip",), ("halt",), ("skip",), ("fail", 5), ("skip",), ("bra", -2), ("halt",)))
        self.assertEqual(run_machine(machine, state(), fuel=99), (state(pc=7), ("halt",), 4))
        self.assertEqual(run_machine(machine, state(), fuel=1), (state(pc=2, br=2), ("none",), 1))
        self.assertEqual(run_machine(machine, state(pc=2, br=2), fuel=0), (state(pc=2, br=2), ("none",), 0))
        self.assertEqual(run_machine(machine, state(pc=4, br=2), fuel=0), (state(pc=4, br=2), ("none",), 0))

    def test_backward(self):
        machine = (8, (("halt",), ("addi", 0, 1), ("addi", 0, 2), ("fail", 9)))
        self.assertEqual(run_machine(machine, state((10,), 2, 0, -1), fuel=9), (state((7,), 0, 0, -1), ("halt",), 2))
        self.assertEqual(run_machine(machine, state((10,), 3, 0, -1), fuel=9), (state((10,), 3, 0, -1), ("fail", 9), 0))

    def test_run_back(self):
        first = state((0, 3))
        last, end, steps = run_machine(self.loop, first, fuel=1000)
        self.assertEqual((last, end, steps), (state((3, 3), 9), ("halt",), 20))
        self.assertEqual(run_back(self.loop, last, steps), first)
        self.assertEqual(run_back(self.loop, last, 0), last)
        for k in range(steps + 1):
            there = run_machine(self.loop, first, fuel=k)
            self.assertEqual(there[2], k)
            self.assertEqual(there[1], ("halt",) if k == steps else ("none",))
            self.assertEqual(run_back(self.loop, there[0], k), first)
            self.assertEqual(run_back(self.loop, last, steps - k), there[0])
        # also beyond the beginning
        self.assertEqual(run_back((8, ()), state(), 3), state(pc=MINUS_3))

    def test_what_is_handed_in_stays(self):
        machine, first = (8, (("addi", 0, 1), ("exch", 0, 1), ("halt",))), state((1, 1), memory=(5, 6))
        before = copy.deepcopy((machine, first))
        last, _, steps = run_machine(machine, first, fuel=9)
        self.assertEqual(last, state((6, 1), 2, memory=(5, 2)))
        self.assertEqual(run_back(machine, last, steps), first)
        self.assertEqual((machine, first), before)
        self.assertIs(type(last[0]), tuple)
        self.assertIs(type(last[4]), tuple)

    def test_by_keyword(self):
        with self.assertRaises(TypeError):
            run_machine((8, ()), state(), 5)


class Faults(unittest.TestCase):
    def test_none(self):
        for width in (1, 2, 8, 31, 32):
            self.assertEqual(machine_faults((width, ())), [])
            chance = random.Random(width)
            code = tuple(example(word, chance, width) for word in WORDS * 5)
            self.assertEqual(machine_faults((width, code)), [])
        self.assertEqual(machine_faults(Runs.loop), [])

    def test_form(self):
        for value in OTHERS + ([8, ()], (8,), (8, (), ()), (0, ()), (33, ()), (-1, ()), (True, ()), (False, ()), (None, ()),
                               ("8", ()), (8.0, ()), (8, []), (8, None), (8, "skip"), (8, {}), (8, True), ((), 8)):
            self.assertEqual(machine_faults(value), [(-1, "form")], value)
        self.assertEqual(machine_faults((0, (5, 6))), [(-1, "form")])

    def at_one(self, instruction, code, width=8):
        machine = (width, (("skip",), instruction, ("halt",)))
        self.assertEqual(machine_faults(machine), [(1, code)] if code else [], instruction)

    def test_op(self):
        for value in OTHERS:
            self.at_one(value, "op")
        for value in (("jump",), ("skip", 0), ("halt", 0), ("fail",), ("fail", 0, 0), ("add",), ("add", 0), ("add", 0, 1, 2),
                      ["add", 0, 1], ("Add", 0, 1), ("addi", 0), ("less", 0, 1), ("less", 0, 1, 2, 3), ("bra",),
                      ("bra", 1, 2), ("brz", 1), ("rbra", 0, 1), ("over", 0, 1), ("over", 0, 1, 2, 3), ("neg",),
                      ("neg", 0, 1), ("int", 1), (0, 1, 2), (None, 1, 2), (("add",), 0, 1), ([], 0, 1), (True,),
                      (b"skip",), ("", 0), ("rrr", 0, 1, 2), (("skip",),)):
            self.at_one(value, "op")
        for word in WORDS:
            right = example(word, random.Random(1), 8)
            self.at_one(right, None)
            self.at_one(right + (0,), "op")
            self.at_one(right[:-1], "op")

    def test_register(self):
        bad = (16, -1, True, False, None, "0", "r0", 1.0, (), [], (1,), 2 ** 40)
        for word, kinds in KINDS.items():
            right = example(word, random.Random(1), 8)
            for at, kind in enumerate(kinds):
                if kind == "r":
                    for value in bad:
                        self.at_one(right[:at + 1] + (value,) + right[at + 2:], "register")
        for r in (0, 15):
            self.at_one(("neg", r), None)

    def test_same(self):
        for word in ("add", "sub", "xor", "test", "swap", "exch", "addr", "subr"):
            for r in (0, 7, 15):
                self.at_one((word, r, r), "same")
            self.at_one((word, 0, 15), None)
        self.at_one(("over", 3, 3, 5), "same")
        for word in OF_TWO:
            self.at_one((word, 3, 3, 4), "same")
            self.at_one((word, 3, 4, 3), "same")
            self.at_one((word, 3, 3, 3), "same")
            self.at_one((word, 3, 4, 4), None)
        # what is no register is not the same as one, nor is a number
        self.at_one(("addi", 3, 3), None)
        self.at_one(("over", 3, 4, 3), None)
        self.at_one(("brz", 3, 3), None)

    def test_number(self):
        wrong = (None, True, False, "1", 1.0, (), [])
        for width in (1, 8, 32):
            for word in ("addi", "xori"):
                for n in (0, 1, 2 ** width - 1):
                    self.at_one((word, 0, n), None, width)
                for n in (-1, 2 ** width) + wrong:
                    self.at_one((word, 0, n), "number", width)
            for head in (("addl", 0), ("over", 0, 1)):
                for m in (0, 1, ALL - 1):
                    self.at_one(head + (m,), None, width)
                for m in (-1, ALL) + wrong:
                    self.at_one(head + (m,), "number", width)
            for head in (("bra",), ("rbra",), ("brz", 0), ("brn", 0)):
                for off in (0, 1, -1, 2 ** 31 - 1, -2 ** 31):
                    self.at_one(head + (off,), None, width)
                for off in (2 ** 31, -2 ** 31 - 1) + wrong:
                    self.at_one(head + (off,), "number", width)
            for k in (0, 1, 10 ** 30):
                self.at_one(("fail", k), None, width)
            for k in (-1,) + wrong:
                self.at_one(("fail", k), "number", width)

    def test_the_first_one_of_each(self):
        code = (
            ("addi", 16, 999), ("over", 3, 3, -1), ("less", 3, 3, 16), ("skip", True), ("over", 16, 16, None), ("neg", 0),
            ("less", True, True, 0), ("bra", 2 ** 31), 5, ("halt",), ("fail", -1),
        )
        self.assertEqual(machine_faults((8, code)), [
            (0, "register"), (1, "same"), (2, "register"), (3, "op"), (4, "register"), (6, "register"), (7, "number"),
            (8, "op"), (10, "number"),
        ])
        self.assertEqual(machine_faults((8, code * 2))[9:], [(at + 11, fault) for at, fault in machine_faults((8, code))])
