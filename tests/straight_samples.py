"""Programs that have circuits, for the tests, and a look at whether the circuits do what the programs do."""

import itertools
import random

from backrun.circuits import circuit_faults, inverse_circuit, run_circuit
from backrun.faults import faults
from backrun.inverse import inverse
from backrun.run import run
from backrun.synth import bits_store, can_synthesize, store_bits, synthesize
from tests.samples import Maker


class StraightMaker(Maker):
    """Makes random programs without loops, whose procedures call only those behind them."""

    def __init__(self, seed, width, declared):
        super().__init__(seed)
        self.width = width
        self.declared = declared

    def statement(self, width, seen, callable_procedures, depth):
        while True:
            made = super().statement(width, seen, callable_procedures, depth)
            if made[0] != "loop":
                return made

    def program(self):
        arrays = [size for _, size in self.declared if size]
        pair = (("x", 0), ("y", 0))
        mixed = (("x", 0),) + ((("m", arrays[0]),) if arrays else ())
        rows = [("one", pair), ("two", mixed), ("three", pair)]
        procedures = [("main", (), self.body(self.width, dict(self.declared), rows, 0))]
        for at, (name, params) in enumerate(rows):
            procedures.append((name, params, self.body(self.width, dict(params), rows[at + 1:], 1)))
        self.random.shuffle(procedures)
        return (self.width, self.declared, tuple(procedures))


def all_stores(program):
    """All stores of a program; they must be few."""
    width, declared, _ = program
    values = [list(range(2 ** width)) if size == 0 else list(itertools.product(range(2 ** width), repeat=size))
              for _, size in declared]
    for chosen in itertools.product(*values):
        yield tuple((name, value) for (name, _), value in zip(declared, chosen))


def some_stores(program, seed, many):
    chance = random.Random(seed)
    width, declared, _ = program

    def word():
        return chance.choice((0, 1, 2 ** width - 1, chance.randrange(2 ** width), chance.randrange(2 ** width)))
    return [tuple((name, tuple(word() for _ in range(size)) if size else word()) for name, size in declared)
            for _ in range(many)]


def looked_at_layout(test, program):
    """The layout of a program, when its form has been looked at."""
    test.assertEqual(faults(program), [])
    test.assertIs(can_synthesize(program), True)
    layout = synthesize(program)
    circuit, inputs, bad = layout
    test.assertIs(type(layout), tuple)
    test.assertEqual(circuit_faults(circuit), [])
    words = sum(max(size, 1) for _, size in program[1])
    width = program[0]
    test.assertEqual(inputs, tuple(tuple(range(at * width, at * width + width)) for at in range(words)))
    test.assertEqual(bad, circuit[0] - 1)
    test.assertGreaterEqual(bad, words * width)
    return layout


def words_of_store(store):
    return [word for _, value in store for word in (value if isinstance(value, tuple) else (value,))]


def bits_of(program, layout, store):
    """All bits for a store, by the document's words."""
    width = program[0]
    bits = [word >> at & 1 for word in words_of_store(store) for at in range(width)]
    return tuple(bits + [0] * (layout[0][0] - len(bits)))


def does_the_same(test, program, stores):
    """The words of the ends of the runs from stores, when the circuits have been found to agree with them."""
    layout = looked_at_layout(test, program)
    turned = looked_at_layout(test, inverse(program))
    circuit, _, bad = layout
    ends = {}
    for store in stores:
        last, end, _ = run(program, store, fuel=10 ** 9)
        ends[end[:2]] = ends.get(end[:2], 0) + 1
        bits = store_bits(program, layout, store)
        test.assertEqual(bits, bits_of(program, layout, store))
        test.assertEqual(bits_store(program, layout, bits), store)
        behind = run_circuit(circuit, bits)
        if end == ("done",):
            test.assertEqual(behind, bits_of(program, layout, last), (program, store))
            test.assertEqual(bits_store(program, layout, behind), last)
            # back again, by the gates in the other order and by the circuit of the inverse
            test.assertEqual(run_circuit(inverse_circuit(circuit), behind), bits)
            back = run_circuit(turned[0], store_bits(inverse(program), turned, last))
            test.assertEqual(back, bits_of(program, turned, store))
        else:
            test.assertEqual(behind[bad], 1, (program, store, end))
    return ends
