import copy
import itertools
import random
import unittest

from backrun.adders import add_into, less_into
from backrun.circuits import circuit_faults, run_circuit
from backrun.tables import as_bits, as_number


class AdderTest(unittest.TestCase):
    def wires_of(self, seed, *many):
        """Groups of so many different wires in any order, with some that belong to none; and how many there are."""
        total = sum(many) + 2
        wires = list(range(total))
        if seed:
            random.Random(seed).shuffle(wires)
        groups = []
        for size in many:
            groups.append(tuple(wires[:size]))
            del wires[:size]
        return total, groups, wires

    def put(self, bits, wires, number):
        for wire, bit in zip(wires, as_bits(number, len(wires))):
            bits[wire] = bit

    def holding(self, controls, wanted):
        """All bits for the controls' wires, with whether they hold."""
        for bits in itertools.product((0, 1), repeat=len(controls)):
            yield bits, bits == wanted


class AddInto(AdderTest):
    def adds(self, size, seed, values):
        total, (target, source, controlled), others = self.wires_of(seed, size, size, len(values))
        controls = tuple(zip(controlled, values))
        arguments = (target, source, controls)
        before = copy.deepcopy(arguments)
        gates = add_into(*arguments)
        self.assertEqual(arguments, before)
        self.assertIs(type(gates), tuple)
        circuit = (total, gates)
        self.assertEqual(circuit_faults(circuit), [])
        for x, y in itertools.product(range(2 ** size), repeat=2):
            for held, holds in self.holding(controls, values):
                for rest in itertools.product((0, 1), repeat=len(others)):
                    bits = [0] * total
                    self.put(bits, target, x)
                    self.put(bits, source, y)
                    for wire, bit in list(zip(controlled, held)) + list(zip(others, rest)):
                        bits[wire] = bit
                    want = list(bits)
                    if holds:
                        self.put(want, target, (x + y) % 2 ** size)
                    self.assertEqual(run_circuit(circuit, tuple(bits)), tuple(want))

    def test_without_controls(self):
        for size in (1, 2, 3):
            for seed in range(4):
                self.adds(size, seed, ())

    def test_with_controls(self):
        for size in (1, 2, 3):
            for values in ((0,), (1,), (0, 0), (0, 1), (1, 0), (1, 1)):
                self.adds(size, size + 10, values)
        self.adds(2, 0, (1, 0))
        self.adds(2, 3, (1, 0, 1))

    def test_no_wires(self):
        self.assertEqual(add_into((), (), ()), ())
        self.assertEqual(add_into((), (), ((0, 1),)), ())

    def test_one_bit(self):
        self.assertEqual(run_circuit((2, add_into((0,), (1,), ())), (1, 1)), (0, 1))

    def test_eight_bits(self):
        chance = random.Random(8)
        total, (target, source, controlled), _ = self.wires_of(5, 8, 8, 2)
        circuit = (total, add_into(target, source, ((controlled[0], 1), (controlled[1], 0))))
        self.assertEqual(circuit_faults(circuit), [])
        for _ in range(200):
            bits = [chance.randrange(2) for _ in range(total)]
            x, y = as_number([bits[w] for w in target]), as_number([bits[w] for w in source])
            want = list(bits)
            if (bits[controlled[0]], bits[controlled[1]]) == (1, 0):
                self.put(want, target, (x + y) % 256)
            self.assertEqual(run_circuit(circuit, tuple(bits)), tuple(want))


class LessInto(AdderTest):
    def compares(self, size, seed, values):
        total, groups, others = self.wires_of(seed, 1, size, size, size + 1, len(values))
        (wire,), first, second, spare, controlled = groups
        controls = tuple(zip(controlled, values))
        arguments = (wire, first, second, spare, controls)
        before = copy.deepcopy(arguments)
        gates = less_into(*arguments)
        self.assertEqual(arguments, before)
        self.assertIs(type(gates), tuple)
        circuit = (total, gates)
        self.assertEqual(circuit_faults(circuit), [])
        for x, y in itertools.product(range(2 ** size), repeat=2):
            for held, holds in self.holding(controls, values):
                for was, rest in itertools.product((0, 1), repeat=2):
                    bits = [0] * total
                    self.put(bits, first, x)
                    self.put(bits, second, y)
                    for at, bit in zip(controlled, held):
                        bits[at] = bit
                    bits[wire], bits[others[0]] = was, rest
                    want = list(bits)
                    want[wire] = was ^ int(holds and x < y)
                    self.assertEqual(run_circuit(circuit, tuple(bits)), tuple(want), (x, y))

    def test_without_controls(self):
        for size in (1, 2, 3):
            for seed in range(4):
                self.compares(size, seed, ())

    def test_with_controls(self):
        for size in (1, 2, 3):
            for values in ((0,), (1,), (0, 0), (0, 1), (1, 0), (1, 1)):
                self.compares(size, size + 10, values)
        self.compares(2, 3, (1, 0, 1))

    def test_no_wires(self):
        self.assertEqual(run_circuit((2, less_into(0, (), (), (1,), ())), (0, 0)), (0, 0))

    def test_eight_bits(self):
        chance = random.Random(9)
        total, ((wire,), first, second, spare), _ = self.wires_of(6, 1, 8, 8, 9)
        circuit = (total, less_into(wire, first, second, spare, ()))
        self.assertEqual(circuit_faults(circuit), [])
        for _ in range(200):
            x = chance.randrange(256)
            y = chance.choice((x, max(x - 1, 0), min(x + 1, 255), chance.randrange(256)))
            bits = [0] * total
            self.put(bits, first, x)
            self.put(bits, second, y)
            want = list(bits)
            want[wire] = int(x < y)
            self.assertEqual(run_circuit(circuit, tuple(bits)), tuple(want))
