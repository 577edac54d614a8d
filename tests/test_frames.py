import copy
import unittest

from backrun.frames import is_clean, lay, read_store
from backrun.inverse import inverse
from backrun.lower import compile_program
from backrun.machine import run_back, run_machine
from backrun.run import empty_store, run
from tests.machines import ZEROS, size_of_globals
from tests.samples import (
    COUNTING, FIBONACCI, SKIP, TURNING, Maker, cell, countdown, minus, num, plus, program, var, xor,
)

DECLARED = (("a", 0), ("r", 3), ("b", 0), ("one", 1))
MADE = program((plus("a", cell("r", var("b"))),), declared=DECLARED)
STORE = (("a", 7), ("r", (1, 2, 255)), ("b", 128), ("one", (9,)))


def places_of(build, name):
    at = [declared for declared, _ in DECLARED].index(name)
    return build[1][at]


class Lay(unittest.TestCase):
    def test_the_state(self):
        build = compile_program(MADE, cells=20)
        for cells in (6, 7, 20, 300):
            before = copy.deepcopy((MADE, build, STORE))
            state = lay(MADE, build, STORE, cells)
            self.assertEqual((MADE, build, STORE), before)
            registers, pc, br, direction, memory = state
            self.assertEqual((registers, pc, br, direction, len(memory)), (ZEROS, 0, 0, 1, cells))
            self.assertEqual([type(part) for part in (state, registers, memory)], [tuple] * 3)
            r = places_of(build, "r")
            self.assertEqual(memory[places_of(build, "a")], 7)
            self.assertEqual(memory[places_of(build, "b")], 128)
            self.assertEqual(memory[r:r + 3], (1, 2, 255))
            self.assertEqual(memory[places_of(build, "one")], 9)
            self.assertEqual(sorted(word for word in memory if word), [1, 2, 7, 9, 128, 255])

    def test_nothing_to_lay(self):
        none = program((), declared=())
        self.assertEqual(lay(none, compile_program(none, cells=3), (), 3), (ZEROS, 0, 0, 1, (0, 0, 0)))
        state = lay(MADE, compile_program(MADE), empty_store(MADE), 9)
        self.assertEqual(state, (ZEROS, 0, 0, 1, (0,) * 9))

    def test_whole_words(self):
        made = program((), declared=(("x", 0), ("r", 2)), width=32)
        store = (("x", 2 ** 32 - 1), ("r", (2 ** 31, 5)))
        build = compile_program(made, cells=9)
        self.assertEqual(read_store(made, build, lay(made, build, store, 9)), store)


class ReadStore(unittest.TestCase):
    def test_what_was_laid(self):
        build = compile_program(MADE, cells=20)
        for cells in (6, 7, 20, 300):
            state = lay(MADE, build, STORE, cells)
            self.assertEqual(read_store(MADE, build, state), STORE)
        self.assertEqual(read_store(MADE, build, lay(MADE, build, empty_store(MADE), 6)), empty_store(MADE))

    def test_of_any_state(self):
        build = compile_program(MADE, cells=20)
        memory = tuple(range(100, 120))
        found = read_store(MADE, build, ((5,) * 16, 77, 3, -1, memory))
        places = build[1]
        self.assertEqual(found, (("a", memory[places[0]]), ("r", memory[places[1]:places[1] + 3]),
                                 ("b", memory[places[2]]), ("one", (memory[places[3]],))))
        self.assertIs(type(found), tuple)

    def test_random_stores(self):
        for seed in range(60):
            maker = Maker(seed)
            made = maker.program()
            build = compile_program(made, cells=100)
            for cells in (size_of_globals(made), 100):
                store = maker.store(made)
                self.assertEqual(read_store(made, build, lay(made, build, store, cells)), store)
                self.assertIs(is_clean(made, build, lay(made, build, store, cells)), True)


class IsClean(unittest.TestCase):
    def setUp(self):
        self.build = compile_program(MADE, cells=20)

    def clean(self, registers=ZEROS, pc=0, br=0, direction=1, memory=(0,) * 20):
        return is_clean(MADE, self.build, (registers, pc, br, direction, memory))

    def own(self):
        return [place + at for place, (_, size) in zip(self.build[1], DECLARED) for at in range(max(size, 1))]

    def test_true(self):
        self.assertIs(self.clean(), True)
        self.assertIs(self.clean(pc=55), True)
        self.assertEqual(len(self.own()), 6)
        for word in (1, 255, 2 ** 32 - 1):
            self.assertIs(self.clean(memory=tuple(word if at in self.own() else 0 for at in range(20))), True)
            for place in self.own():
                self.assertIs(self.clean(memory=tuple(word if at == place else 0 for at in range(20))), True)

    def test_each_register(self):
        for at in range(16):
            for word in (1, 256, 2 ** 32 - 1):
                self.assertIs(self.clean(registers=ZEROS[:at] + (word,) + ZEROS[at + 1:]), False)

    def test_br_and_the_direction(self):
        for br in (1, 2 ** 32 - 1):
            self.assertIs(self.clean(br=br), False)
        self.assertIs(self.clean(direction=-1), False)

    def test_each_other_cell(self):
        for place in range(20):
            if place not in self.own():
                for word in (1, 256, 2 ** 31):
                    self.assertIs(self.clean(memory=tuple(word if at == place else 0 for at in range(20))), False)


class Promise(unittest.TestCase):
    """What the code does, through all that is needed for it."""

    def leads(self, made, store, cells=200, fuel=1000, most=10 ** 6):
        """The end of the machine's run, the word and path of a fail instead of its number."""
        build = compile_program(made, cells=cells)
        first = lay(made, build, store, cells)
        self.assertTrue(is_clean(made, build, first))
        behind, end, steps = run_machine(build[0], first, fuel=most)
        last, stop, _ = run(made, store, fuel=fuel)
        self.assertEqual(run_back(build[0], behind, steps), first)
        if end == ("halt",):
            self.assertEqual(stop, ("done",))
            self.assertEqual(read_store(made, build, behind), last)
            self.assertIs(is_clean(made, build, behind), True)
        elif end == ("none",):
            self.assertEqual(stop, ("none",))
        else:
            end = build[2][end[1]]
            if end[0] != "frame":
                self.assertEqual(("fail",) + end, stop)
        return end

    def test_done(self):
        self.assertEqual(self.leads(MADE, STORE), ("halt",))
        self.assertEqual(self.leads(inverse(MADE), STORE), ("halt",))
        for n in range(9):
            self.assertEqual(self.leads(FIBONACCI, (("n", n), ("x", 0), ("y", 0))), ("halt",))
        for a in (1, 5, 255):
            self.assertEqual(self.leads(COUNTING, (("a", a), ("b", 3)), fuel=2000), ("halt",))
        first = (("r", (5, 4, 3, 2, 1)), ("i", 0), ("j", 0))
        self.assertEqual(self.leads(TURNING, first), ("halt",))
        last = run(TURNING, first, fuel=1000)[0]
        self.assertEqual(self.leads(inverse(TURNING), last), ("halt",))

    def test_fail(self):
        store = (("a", 1), ("b", 0), ("r", (0, 0, 0, 0)))
        wrong_if = ("if", var("a"), (SKIP,), (), var("b"))
        wrong_local = ("local", "t", var("a"), (SKIP,), var("b"))
        wrong_loop = ("loop", var("b"), (), (), num(1))
        late_loop = ("loop", var("a"), (SKIP,), (plus("b", num(1)),), num(0))
        for statement, word in ((wrong_if, "exit"), (wrong_local, "local"), (wrong_loop, "entry"), (late_loop, "entry")):
            self.assertEqual(self.leads(program((SKIP, statement)), store), (word, (0, 1)))
            nested = ("if", num(1), (xor("b", num(0)), statement), (), num(1))
            self.assertEqual(self.leads(program((nested,)), store), (word, (0, 0, 0, 1)))
            params = (("a", 0), ("b", 0))
            for call in ("call", "uncall"):
                made = program((plus("a", num(1)), minus("a", num(1)), (call, "p", ("a", "b"))),
                               procedures=(("p", params, (SKIP, statement, SKIP)),))
                if call == "call" or statement in (wrong_if, wrong_local):
                    self.assertEqual(self.leads(made, store), (word, (1, 1)))
        made = program((wrong_if, SKIP))
        self.assertEqual(self.leads(inverse(made), (("a", 0), ("b", 1), ("r", (0, 0, 0, 0)))), ("exit", (0, 1)))

    def test_none(self):
        made = program((("loop", ("equal", var("a"), num(0)), (plus("a", num(1)),), (), num(0)),), width=32)
        store = (("a", 0), ("b", 0), ("r", (0, 0, 0, 0)))
        self.assertEqual(self.leads(made, store, most=50000), ("none",))

    def test_frames(self):
        made = (16, (("n", 0),), (("main", (), (SKIP, ("call", "down", ("n",)))), countdown("down")))
        for n in (0, 1, 7):
            found = []
            for cells in range(1, 100):
                end = self.leads(made, (("n", n),), cells)
                if end not in found:
                    found.append(end)
            want = [("frame", ()), ("frame", (0, 1))] + [("frame", (1, 0, 0, 1))] * (n > 0) + [("halt",)]
            self.assertEqual(found, want)
        own = program((("call", "own", ("a",)),), procedures=(("own", (("x", 0),), (SKIP, ("uncall", "own", ("x",)))),))
        store = (("a", 0), ("b", 0), ("r", (0, 0, 0, 0)))
        for cells in (40, 41, 42, 43, 1000):
            self.assertEqual(self.leads(own, store, cells, fuel=100), ("frame", (1, 1)))

    def test_a_memory_that_is_too_small_for_the_globals(self):
        build = compile_program(MADE, cells=3)
        state = lay(MADE, build, STORE, 3)
        self.assertEqual(len(state[4]), 3)
        self.assertEqual(run_machine(build[0], state, fuel=9)[1:], (("fail", 0), 0))
        self.assertEqual(build[2][0], ("frame", ()))

    def test_random_programs(self):
        words = {}
        for seed in range(500, 750):
            maker = Maker(seed)
            made = maker.program()
            for turned in (made, inverse(made)):
                for cells in (12, 200):
                    store = maker.store(made)
                    if run(turned, store, fuel=1000)[1] != ("none",):
                        end = self.leads(turned, store, cells)
                        words[end[0]] = words.get(end[0], 0) + 1
        self.assertEqual(sorted(words), ["entry", "exit", "frame", "halt", "local"])
        self.assertGreater(min(words.values()), 10)
