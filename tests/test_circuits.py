import copy
import itertools
import random
import unittest

from backrun.circuits import (
    circuit_faults, counts, depth, inverse_circuit, on_wires, run_circuit, then, touched,
)

OTHERS = (None, True, False, 0, 1, -1, "", "gate", b"", (), [], {}, 1.5, (None,), (1, 2, 3), (0,), [0, ()], ((), ()))

# turns wire 2 if wire 0 is 1 and wire 1 is 0; turns wire 0; turns wire 1 if wire 2 is 1
SMALL = (3, ((2, ((0, 1), (1, 0))), (0, ()), (1, ((2, 1),))))


def all_bits(wires):
    return list(itertools.product((0, 1), repeat=wires))


def random_gate(chance, wires, most=3):
    target, *others = chance.sample(range(wires), chance.randrange(1, min(wires, most + 1) + 1))
    return (target, tuple((wire, chance.randrange(2)) for wire in sorted(others)))


def random_circuit(seed, wires, length):
    chance = random.Random(seed)
    return (wires, tuple(random_gate(chance, wires) for _ in range(length)))


class Faults(unittest.TestCase):
    def test_none(self):
        for value in ((0, ()), (1, ()), (1, ((0, ()),)), SMALL, (10 ** 30, ((10 ** 30 - 1, ((0, 0),)),))):
            self.assertEqual(circuit_faults(value), [])
        for seed in range(50):
            self.assertEqual(circuit_faults(random_circuit(seed, 1 + seed % 6, 10)), [])

    def test_form(self):
        for value in OTHERS + ([3, ()], (3,), (3, (), ()), (True, ()), (False, ()), (-1, ()), (None, ()), ("3", ()),
                               (3.0, ()), (3, []), (3, None), (3, {}), (3, "ab"), ((), 3), (3, 0), (3, True)):
            self.assertEqual(circuit_faults(value), [(-1, "form")], value)
        self.assertEqual(circuit_faults((-1, (5, 6))), [(-1, "form")])

    def at_one(self, gate, code, wires=4):
        self.assertEqual(circuit_faults((wires, ((0, ()), gate, (1, ((0, 1),))))), [(1, code)] if code else [], gate)

    def test_gate(self):
        for value in OTHERS:
            self.at_one(value, "gate")
        for value in (
            [0, ()], (0, (), ()), (0, []), (0, None), (0, {}), (0, "ab"), (0, 1), (True, ()), (False, ()), (None, ()), ("0", ()),
            (0.0, ()), ((0,), ()), (0, (1,)), (0, ((1,),)), (0, ((1, 1, 1),)), (0, ([1, 1],)), (0, (None,)), (0, ("11",)),
            (0, ((1, 2),)), (0, ((1, -1),)), (0, ((1, True),)), (0, ((1, False),)), (0, ((1, None),)), (0, ((1, "1"),)),
            (0, ((True, 1),)), (1, ((False, 1),)), (0, ((None, 1),)), (0, (("1", 1),)), (0, ((1.0, 1),)), (0, (((), 1),)),
        ):
            self.at_one(value, "gate")

    def test_order_of_controls(self):
        for controls in (((2, 1), (1, 1)), ((1, 1), (1, 1)), ((1, 0), (1, 1)), ((1, 1), (3, 1), (2, 1)), ((1, 1), (2, 1), (2, 0)),
                         ((0, 1),), ((0, 0), (1, 1)), ((-1, 1), (0, 1))):
            self.at_one((0, controls), "gate")
        self.at_one((3, ((0, 1), (1, 0), (2, 1))), None)
        self.at_one((1, ((0, 1), (2, 0), (3, 1))), None)

    def test_wire(self):
        for value in ((4, ()), (-1, ()), (10 ** 20, ()), (0, ((4, 1),)), (0, ((-1, 1),)), (0, ((1, 1), (4, 0))),
                      (4, ((0, 1),)), (0, ((-2, 1), (1, 1))), (4, ((5, 0),))):
            self.at_one(value, "wire")
        self.at_one((3, ()), None)
        self.at_one((0, ((3, 1),)), None)
        self.assertEqual(circuit_faults((0, ((0, ()),))), [(0, "wire")])

    def test_the_first_one_of_each(self):
        gates = ((4, ((2, 1), (1, 1))), (4, ()), 5, (0, ((1, 1),)), (9, ((9, 1),)), (0, ((7, 2),)), (0, ((3, 1), (7, 1))))
        self.assertEqual(circuit_faults((4, gates)), [
            (0, "gate"), (1, "wire"), (2, "gate"), (4, "gate"), (5, "gate"), (6, "wire")])


class Runs(unittest.TestCase):
    def test_one_gate(self):
        self.assertEqual(run_circuit((2, ((0, ()),)), (0, 1)), (1, 1))
        self.assertEqual(run_circuit((2, ((0, ()),)), (1, 1)), (0, 1))
        for value in (0, 1):
            for bits in all_bits(2):
                turned = (bits[0] ^ int(bits[1] == value), bits[1])
                self.assertEqual(run_circuit((2, ((0, ((1, value),)),)), bits), turned)

    def test_many_controls(self):
        for values in all_bits(4):
            gate = (2, tuple(zip((0, 1, 3, 4), values)))
            for bits in all_bits(5):
                holds = (bits[0], bits[1], bits[3], bits[4]) == values
                want = bits[:2] + (bits[2] ^ holds,) + bits[3:]
                self.assertEqual(run_circuit((5, (gate,)), bits), want)

    def test_the_order_of_gates(self):
        self.assertEqual(run_circuit(SMALL, (1, 0, 0)), (0, 1, 1))
        self.assertEqual(run_circuit(SMALL, (0, 0, 0)), (1, 0, 0))
        self.assertEqual(run_circuit(SMALL, (1, 1, 1)), (0, 0, 1))

    def test_no_gates(self):
        self.assertEqual(run_circuit((0, ()), ()), ())
        for bits in all_bits(3):
            self.assertEqual(run_circuit((3, ()), bits), bits)

    def test_kinds(self):
        bits = (1, 0, 0)
        before = copy.deepcopy((SMALL, bits))
        found = run_circuit(SMALL, bits)
        self.assertIs(type(found), tuple)
        self.assertTrue(all(type(bit) is int for bit in found))
        self.assertEqual((SMALL, bits), before)


class Inverses(unittest.TestCase):
    def test_the_gates(self):
        self.assertEqual(inverse_circuit(SMALL), (3, ((1, ((2, 1),)), (0, ()), (2, ((0, 1), (1, 0))))))
        self.assertEqual(inverse_circuit((0, ())), (0, ()))
        self.assertEqual(inverse_circuit((5, ())), (5, ()))

    def test_it_leads_back(self):
        for seed in range(60):
            circuit = random_circuit(seed, 1 + seed % 6, seed % 13)
            turned = inverse_circuit(circuit)
            self.assertEqual(inverse_circuit(turned), circuit)
            images = set()
            for bits in all_bits(circuit[0]):
                behind = run_circuit(circuit, bits)
                images.add(behind)
                self.assertEqual(run_circuit(turned, behind), bits)
                self.assertEqual(run_circuit(circuit, run_circuit(turned, bits)), bits)
            # one-to-one
            self.assertEqual(len(images), 2 ** circuit[0])


class Joined(unittest.TestCase):
    def test_then(self):
        other = (3, ((0, ((1, 1),)),))
        self.assertEqual(then(SMALL, other), (3, SMALL[1] + other[1]))
        self.assertEqual(then(other, SMALL), (3, other[1] + SMALL[1]))
        self.assertEqual(then((3, ()), SMALL), SMALL)
        self.assertEqual(then(SMALL, (3, ())), SMALL)
        for seed in range(30):
            wires = 1 + seed % 5
            first, second = random_circuit(seed, wires, 6), random_circuit(seed + 100, wires, 6)
            for bits in all_bits(wires):
                self.assertEqual(run_circuit(then(first, second), bits), run_circuit(second, run_circuit(first, bits)))

    def test_on_wires(self):
        self.assertEqual(on_wires(SMALL, 6, (5, 3, 0)), (6, ((0, ((3, 0), (5, 1))), (5, ()), (3, ((0, 1),)))))
        self.assertEqual(on_wires(SMALL, 3, (0, 1, 2)), SMALL)
        self.assertEqual(on_wires((2, ()), 4, (3, 1)), (4, ()))
        self.assertEqual(on_wires((0, ()), 0, ()), (0, ()))
        self.assertEqual(on_wires((0, ()), 3, ()), (3, ()))

    def test_on_wires_in_any_order(self):
        circuit = random_circuit(7, 3, 8)
        for places in itertools.permutations(range(5), 3):
            before = copy.deepcopy(circuit)
            more = on_wires(circuit, 5, places)
            self.assertEqual(circuit, before)
            self.assertEqual(circuit_faults(more), [])
            for bits in all_bits(5):
                inner = run_circuit(circuit, tuple(bits[place] for place in places))
                want = list(bits)
                for place, bit in zip(places, inner):
                    want[place] = bit
                self.assertEqual(run_circuit(more, bits), tuple(want))


class Measures(unittest.TestCase):
    def test_counts(self):
        self.assertEqual(counts((0, ())), [])
        self.assertEqual(counts((4, ())), [])
        self.assertEqual(counts(SMALL), [(0, 1), (1, 1), (2, 1)])
        gates = ((0, ((1, 1), (2, 1), (3, 1))), (0, ()), (1, ((0, 0), (2, 1), (3, 0))), (2, ()), (3, ()))
        self.assertEqual(counts((4, gates)), [(0, 3), (3, 2)])
        gates = tuple((11, tuple((wire, 1) for wire in range(many))) for many in (10, 2, 9, 10))
        self.assertEqual(counts((12, gates)), [(2, 1), (9, 1), (10, 2)])

    def test_depth(self):
        self.assertEqual(depth((0, ())), 0)
        self.assertEqual(depth((4, ())), 0)
        self.assertEqual(depth((4, ((0, ()),))), 1)
        self.assertEqual(depth((4, ((0, ()), (1, ()), (2, ()), (3, ())))), 1)
        self.assertEqual(depth((4, ((0, ()), (0, ()), (0, ())))), 3)
        # controls count as used, whatever their values are, also where two gates only look at a wire
        self.assertEqual(depth((4, ((0, ((1, 1),)), (2, ((1, 0),))))), 2)
        self.assertEqual(depth((4, ((0, ((1, 1),)), (1, ())))), 2)
        self.assertEqual(depth((4, ((0, ((1, 1),)), (2, ((3, 1),))))), 1)
        # a gate on wires of different layers, and a later one that fits into the first layer
        self.assertEqual(depth((4, ((0, ()), (0, ()), (1, ((0, 1),)), (1, ())))), 4)
        self.assertEqual(depth((4, ((0, ()), (0, ()), (1, ()), (0, ((1, 1),)), (2, ())))), 3)
        self.assertEqual(depth((4, ((1, ((2, 0),)), (0, ()), (0, ((1, 1),)), (3, ()), (3, ((2, 1),))))), 2)
        self.assertEqual(depth(SMALL), 2)

    def test_touched(self):
        self.assertEqual(touched((0, ())), ())
        self.assertEqual(touched((4, ())), ())
        self.assertEqual(touched((12, ((11, ((0, 1),)), (2, ()), (11, ()), (10, ((2, 1), (3, 0)))))), (2, 10, 11))
        self.assertEqual(touched(SMALL), (0, 1, 2))
        self.assertIs(type(touched(SMALL)), tuple)
