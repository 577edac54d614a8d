"""What the document promises over the whole program: its parts agree with each other, on random programs."""

import random
import unittest

from backrun.circuits import circuit_faults, inverse_circuit, run_circuit
from backrun.embed import embed
from backrun.faults import faults
from backrun.frames import is_clean, lay, read_store
from backrun.house import House
from backrun.inverse import inverse
from backrun.listing import read_code, show_code
from backrun.lower import compile_program
from backrun.machine import back, machine_faults, run_back, run_machine, step
from backrun.packing import pack, unpack
from backrun.pebbles import chain_program, chain_value, pebbling
from backrun.plain import run_plain
from backrun.run import is_store, run, trace
from backrun.shrink import shrink
from backrun.steps import apply_step, apply_steps
from backrun.synth import bits_store, store_bits, synthesize
from backrun.tables import table
from backrun.text import read_program, show_program
from backrun.tidy import check_steps, tidy
from tests.plain_samples import PlainMaker
from tests.samples import Maker, num, var
from tests.straight_samples import StraightMaker, some_stores
from tests.test_circuits import random_circuit, random_gate

DECLARED = (("a", 0), ("b", 0), ("c", 0), ("r", 3))
CELLS = 300


class Programs(unittest.TestCase):
    """Programs and machines, with loops and calls that lead back."""

    def samples(self, many):
        for seed in range(many):
            maker = Maker(seed + 1000)
            made = maker.program()
            self.assertEqual(faults(made), [])
            yield made, [maker.store(made) for _ in range(3)]

    def test_there_and_back(self):
        done = failed = 0
        for made, stores in self.samples(250):
            turned = inverse(made)
            self.assertEqual(faults(turned), [])
            self.assertEqual(inverse(turned), made)
            for store in stores:
                last, end, steps = run(made, store, fuel=400)
                self.assertTrue(is_store(made, last))
                self.assertEqual(steps, len(list(trace(made, store, fuel=400))))
                if end == ("done",):
                    done += 1
                    self.assertEqual(run(turned, last, fuel=steps), (store, ("done",), steps))
                    self.assertEqual(run(made, last, fuel=steps, backward=True), (store, ("done",), steps))
                elif end[0] == "fail":
                    failed += 1
                # whatever the inverse leads to leads back here
                first, end, steps = run(turned, store, fuel=400)
                if end == ("done",):
                    self.assertEqual(run(made, first, fuel=steps), (store, ("done",), steps))
        self.assertGreater(min(done, failed), 100)

    def test_the_compiled_machine(self):
        ends = {}
        for made, stores in self.samples(120):
            build = compile_program(made, cells=CELLS)
            machine, _, fails = build
            self.assertEqual(machine_faults(machine), [])
            self.assertEqual(read_code(show_code(machine)), machine)
            for store in stores:
                last, end, _ = run(made, store, fuel=300)
                first = lay(made, build, store, CELLS)
                state, stop, steps = run_machine(machine, first, fuel=6000 if end == ("none",) else 10 ** 6)
                word = fails[stop[1]][0] if stop[0] == "fail" else stop[0]
                ends[word] = ends.get(word, 0) + 1
                self.assertEqual(run_back(machine, state, steps), first)
                self.assertEqual(step(machine, back(machine, state)), state)
                self.assertEqual(back(machine, step(machine, state)), state)
                if end == ("done",):
                    self.assertEqual(stop, ("halt",))
                    self.assertEqual(read_store(made, build, state), last)
                    self.assertTrue(is_clean(made, build, state))
                elif end[0] == "fail":
                    self.assertEqual(fails[stop[1]], end[1:])
                else:
                    self.assertIn(word, ("none", "frame"))
        self.assertTrue({"halt", "exit", "entry", "local", "none"} <= set(ends), ends)

    def test_tidied_programs(self):
        shorter = 0
        for made, stores in self.samples(150):
            tidied, at = check_steps(made, tidy(made))
            self.assertEqual((at, faults(tidied), tidy(tidied)), (-1, [], ()))
            shorter += tidied != made
            for store in stores:
                last, end, _ = run(made, store, fuel=300)
                if end != ("none",):
                    found, found_end, _ = run(tidied, store, fuel=300)
                    self.assertEqual((found, found_end[:2]), (last, end[:2]))
        self.assertGreater(shorter, 30)

    def test_texts_and_bytes(self):
        for made, stores in self.samples(60):
            self.assertEqual(read_program(show_program(made)), made)
            machine = compile_program(made, cells=CELLS)[0]
            words = tuple(row[0] for row in machine[1])
            for value in (made[1], stores[0], tuple(trace(made, stores[0], fuel=50)), words):
                self.assertEqual(unpack(pack(value)), value)

    def test_the_house(self):
        for made, stores in self.samples(60):
            house = House(made, stores[0])
            moved = house.forward(120)
            last, end, steps = run(made, stores[0], fuel=120)
            self.assertEqual((house.store(), house.ending(), moved), (last, end, steps))
            self.assertEqual(house.back(moved), moved)
            self.assertEqual(house.store(), stores[0])


class Circuits(unittest.TestCase):
    """Programs without loops: run, compiled, as circuits, and as smaller circuits."""

    def test_all_of_them_agree(self):
        ends = {}
        for seed in range(60):
            made = StraightMaker(seed + 500, 1 + seed % 4, DECLARED).program()
            layout = synthesize(made)
            circuit, _, bad = layout
            smaller, steps = shrink(circuit)
            self.assertEqual(apply_steps(circuit, steps), (smaller, -1))
            tidied = check_steps(made, tidy(made))[0]
            build = compile_program(made, cells=CELLS)
            for store in some_stores(made, seed, 8):
                last, end, _ = run(made, store, fuel=10 ** 6)
                ends[end[0]] = ends.get(end[0], 0) + 1
                bits = store_bits(made, layout, store)
                behind = run_circuit(circuit, bits)
                self.assertEqual(run_circuit(smaller, bits), behind)
                self.assertEqual(run_circuit(inverse_circuit(smaller), behind), bits)
                self.assertEqual(behind[bad], 0 if end == ("done",) else 1)
                state, stop, _ = run_machine(build[0], lay(made, build, store, CELLS), fuel=10 ** 6)
                self.assertEqual(stop == ("halt",), end == ("done",))
                if end == ("done",):
                    self.assertEqual(behind, store_bits(made, layout, last))
                    self.assertEqual(bits_store(made, layout, behind), last)
                    self.assertEqual(read_store(made, build, state), last)
                    self.assertEqual(run(tidied, store, fuel=10 ** 6)[0], last)
                    self.assertEqual(run(inverse(made), bits_store(made, layout, behind), fuel=10 ** 6)[0], store)
        self.assertGreater(min(ends.values()), 50)

    def test_one_to_one(self):
        for seed in range(60):
            circuit = random_circuit(seed, 1 + seed % 6, 12)
            self.assertEqual(sorted(table(circuit)), list(range(2 ** circuit[0])))

    def test_any_list_that_the_checker_accepts(self):
        words = ("cancel", "exchange", "merge", "pass", "pair", "split")
        accepted = 0
        for seed in range(80):
            chance = random.Random(seed)
            wires = chance.randrange(1, 6)
            circuit = random_circuit(seed, wires, 6)
            for _ in range(40):
                steps, now = [], circuit
                for _ in range(chance.randrange(1, 6)):
                    word, at = chance.choice(words), chance.randrange(-1, 9)
                    more = {"pair": (random_gate(chance, wires),), "split": (chance.randrange(wires + 1),)}.get(word, ())
                    if chance.random() < 0.9 and apply_step(now, (word, at) + more) is None:
                        continue
                    steps.append((word, at) + more)
                    now = apply_step(now, steps[-1]) or now
                found, at = apply_steps(circuit, tuple(steps))
                if found is not None:
                    accepted += 1
                    self.assertEqual(at, -1)
                    self.assertEqual(circuit_faults(found), [])
                    self.assertEqual(table(found), table(circuit))
        self.assertGreater(accepted, 500)


class LedOver(unittest.TestCase):
    """Ordinary programs and chains, led over, compiled and as circuits."""

    def test_ordinary_programs_on_the_machine(self):
        done = 0
        for seed in range(150):
            maker = PlainMaker(seed + 2000)
            plain = maker.program()
            values = maker.values(plain)
            outputs, end, _, marks = run_plain(plain, values, fuel=150)
            room = min(256, 2 ** plain[0] - 1, max(marks, 1))
            if end != ("done",) or marks > room:
                continue
            made = embed(plain, room)
            self.assertEqual(faults(made), [])
            given = dict(zip(plain[2], values))
            first = tuple((name, (0,) * size if size else given.get(name, 0)) for name, size in made[1])
            shown = dict(given, **{"back_out_" + name: word for name, word in zip(plain[3], outputs)})
            want = tuple((name, (0,) * size if size else shown.get(name, 0)) for name, size in made[1])
            build = compile_program(made)
            state, stop, steps = run_machine(build[0], lay(made, build, first, 4096), fuel=10 ** 6)
            self.assertEqual(stop, ("halt",))
            self.assertEqual(read_store(made, build, state), want)
            self.assertTrue(is_clean(made, build, state))
            self.assertEqual(run_back(build[0], state, steps), lay(made, build, first, 4096))
            done += 1
        self.assertGreater(done, 50)

    def test_chains_as_circuits(self):
        functions = (("add", var("x"), num(3)), ("mul", var("x"), num(5)), ("not", ("less", var("x"), num(7))), ("xor", num(9), var("x")))
        for n in range(1, 5):
            chain = (4, functions[:n])
            room = (1, 2, 3, 3)[n - 1]
            made = chain_program(chain, pebbling(n, room), room)
            layout = synthesize(made)
            circuit, _ = shrink(layout[0])
            for word in range(16):
                first = tuple((name, word if name == "back_in" else 0) for name, _ in made[1])
                behind = bits_store(made, layout, run_circuit(circuit, store_bits(made, layout, first)))
                shown = {"back_in": word, "back_out": chain_value(chain, word)}
                self.assertEqual(behind, tuple((name, shown.get(name, 0)) for name, _ in made[1]))

    def test_ordinary_programs_without_whiles_as_circuits(self):
        body = (("set", "a", ("add", var("a"), var("b"))),
                ("if", ("less", var("a"), var("b")), (("set", "b", num(1)),), (("set", "a", ("not", var("b"))),)))
        plain = (2, ("a", "b"), ("a", "b"), ("b", "a"), body)
        made = embed(plain, 3)
        layout = synthesize(made)
        for a in range(4):
            for b in range(4):
                first = tuple((name, (0,) * size if size else {"a": a, "b": b}.get(name, 0)) for name, size in made[1])
                behind = bits_store(made, layout, run_circuit(layout[0], store_bits(made, layout, first)))
                outputs = run_plain(plain, (a, b), fuel=100)[0]
                self.assertEqual(dict(behind), dict(first, back_out_b=outputs[0], back_out_a=outputs[1]))
