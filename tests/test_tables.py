import itertools
import random
import unittest

from backrun.circuits import circuit_faults, inverse_circuit, run_circuit, then
from backrun.tables import as_bits, as_number, from_table, parting, table
from tests.test_circuits import SMALL, all_bits, random_circuit


def all_gates(wires):
    """All gates on so many wires."""
    for target in range(wires):
        others = [wire for wire in range(wires) if wire != target]
        for values in itertools.product((0, 1, None), repeat=wires - 1):
            yield (target, tuple((wire, value) for wire, value in zip(others, values) if value is not None))


class Numbers(unittest.TestCase):
    def test_wire_0_is_the_lowest_bit(self):
        self.assertEqual(as_number((1, 0, 0)), 1)
        self.assertEqual(as_number((0, 0, 1)), 4)
        self.assertEqual(as_number((0, 1, 1, 0)), 6)
        self.assertEqual(as_bits(1, 3), (1, 0, 0))
        self.assertEqual(as_bits(6, 4), (0, 1, 1, 0))
        self.assertEqual((as_number(()), as_bits(0, 0)), (0, ()))

    def test_they_lead_to_each_other(self):
        for wires in range(7):
            for number in range(2 ** wires):
                self.assertEqual(as_number(as_bits(number, wires)), number)
            for bits in all_bits(wires):
                self.assertEqual(as_bits(as_number(bits), wires), bits)
        number = 2 ** 90 + 2 ** 40 + 5
        self.assertEqual(as_number(as_bits(number, 100)), number)
        self.assertEqual(len(as_bits(number, 100)), 100)
        self.assertIs(type(as_bits(3, 4)), tuple)


class Tables(unittest.TestCase):
    def told(self, circuit):
        wires = circuit[0]
        return tuple(as_number(run_circuit(circuit, as_bits(k, wires))) for k in range(2 ** wires))

    def test_one_gate(self):
        self.assertEqual(table((1, ((0, ()),))), (1, 0))
        self.assertEqual(table((2, ((1, ((0, 1),)),))), (0, 3, 2, 1))
        self.assertEqual(table((2, ((1, ((0, 0),)),))), (2, 1, 0, 3))
        self.assertEqual(table((3, ((2, ((0, 1), (1, 0))),))), (0, 5, 2, 3, 4, 1, 6, 7))
        seen = 0
        for wires in (1, 2, 3):
            for gate in all_gates(wires):
                circuit = (wires, (gate,))
                self.assertEqual(circuit_faults(circuit), [])
                self.assertEqual(table(circuit), self.told(circuit))
                seen += 1
        self.assertEqual(seen, 1 + 2 * 3 + 3 * 9)

    def test_no_gates(self):
        self.assertEqual(table((0, ())), (0,))
        self.assertEqual(table((3, ())), tuple(range(8)))

    def test_larger_ones(self):
        for seed in range(20):
            circuit = random_circuit(seed, 3 + seed % 5, 15)
            self.assertEqual(table(circuit), self.told(circuit))
            self.assertEqual(sorted(table(circuit)), list(range(2 ** circuit[0])))
        circuit = random_circuit(1, 12, 30)
        row = table(circuit)
        self.assertEqual(len(row), 4096)
        for k in (0, 1, 77, 2048, 4095):
            self.assertEqual(row[k], as_number(run_circuit(circuit, as_bits(k, 12))))
        self.assertIs(type(row), tuple)


class FromTable(unittest.TestCase):
    def gives(self, row, *gates):
        self.assertEqual(from_table(row), (len(row).bit_length() - 1, gates))
        self.assertEqual(table(from_table(row)), row)

    def test_no_wires(self):
        self.gives((0,))

    def test_one_wire(self):
        self.gives((0, 1))
        self.gives((1, 0), (0, ()))

    def test_two_wires(self):
        self.gives((0, 1, 2, 3))
        self.gives((0, 1, 3, 2), (0, ((1, 1),)))
        self.gives((0, 3, 2, 1), (1, ((0, 1),)))
        # one more: for 0, the image 1 loses bit 0; for 1, the image 3 loses bit 1
        self.gives((1, 2, 3, 0), (1, ((0, 1),)), (0, ()))
        # one less: for 0, the image 3 loses bits 0 and 1; for 1, the image 3 loses bit 1
        self.gives((3, 0, 1, 2), (1, ((0, 1),)), (1, ()), (0, ()))
        # the wires exchanged: for 1, the image 2 gets bit 0 and loses bit 1; for 2, the image 3 loses bit 0
        self.gives((0, 2, 1, 3), (0, ((1, 1),)), (1, ((0, 1),)), (0, ((1, 1),)))

    def test_three_wires(self):
        self.gives((0, 1, 2, 3, 4, 5, 7, 6), (0, ((1, 1), (2, 1))))
        self.gives((0, 1, 2, 7, 4, 5, 6, 3), (2, ((0, 1), (1, 1))))
        self.gives((4, 5, 6, 7, 0, 1, 2, 3), (2, ()))
        # for 3, the image 4 gets bit 0, then 5 gets bit 1, then 7 loses bit 2; for 4, the image 7 loses bits 0 and 1;
        # for 5, the image 7 loses bit 1
        self.gives(
            (0, 1, 2, 4, 3, 5, 6, 7),
            (1, ((0, 1), (2, 1))), (1, ((2, 1),)), (0, ((2, 1),)), (2, ((0, 1), (1, 1))), (1, ((0, 1), (2, 1))),
            (0, ((2, 1),)),
        )

    def test_all_rows_of_two_wires(self):
        for row in itertools.permutations(range(4)):
            circuit = from_table(row)
            self.assertEqual(circuit_faults(circuit), [])
            self.assertEqual((circuit[0], table(circuit)), (2, row))

    def test_rows_of_more(self):
        for wires, many in ((3, 300), (4, 60), (5, 20), (6, 5), (8, 2)):
            chance = random.Random(wires)
            for _ in range(many):
                row = list(range(2 ** wires))
                chance.shuffle(row)
                circuit = from_table(tuple(row))
                self.assertEqual(circuit_faults(circuit), [])
                self.assertEqual((circuit[0], table(circuit)), (wires, tuple(row)))
                self.assertTrue(all(value == 1 for _, controls in circuit[1] for _, value in controls))

    def test_of_circuits(self):
        for seed in range(30):
            circuit = random_circuit(seed, 1 + seed % 5, 9)
            self.assertEqual(table(from_table(table(circuit))), table(circuit))


class Parting(unittest.TestCase):
    def test_equal_ones(self):
        for seed in range(20):
            circuit = random_circuit(seed, 1 + seed % 6, 9)
            self.assertIsNone(parting(circuit, circuit))
            self.assertIsNone(parting(circuit, from_table(table(circuit))))
            self.assertIsNone(parting(then(circuit, inverse_circuit(circuit)), (circuit[0], ())))
        self.assertIsNone(parting((0, ()), (0, ())))

    def test_one_input_and_its_partner(self):
        # a gate with all other wires as controls moves two inputs alone
        for values in all_bits(3):
            gate = (1, tuple(zip((0, 2, 3), values)))
            least = values[0] + 4 * values[1] + 8 * values[2]
            self.assertEqual(parting((4, (gate,)), (4, ())), least)
            self.assertEqual(parting(then(random_circuit(3, 4, 5), (4, (gate,))), random_circuit(3, 4, 5)),
                             min(k for k, image in enumerate(table(random_circuit(3, 4, 5)))
                                 if image & ~2 == least))

    def test_many_inputs(self):
        self.assertEqual(parting((3, ((0, ()),)), (3, ())), 0)
        self.assertEqual(parting((3, ((0, ((2, 1),)),)), (3, ())), 4)
        self.assertEqual(parting((3, ()), (3, ((0, ((1, 1), (2, 1))),))), 6)
        self.assertEqual(parting(SMALL, inverse_circuit(SMALL)),
                         [a == b for a, b in zip(table(SMALL), table(inverse_circuit(SMALL)))].index(False))
        for seed in range(30):
            first, second = random_circuit(seed, 5, 6), random_circuit(seed + 50, 5, 6)
            differ = [k for k in range(32) if table(first)[k] != table(second)[k]]
            self.assertEqual(parting(first, second), differ[0] if differ else None)

    def test_twelve_wires(self):
        gate = (11, tuple((wire, 1) for wire in range(11)))
        self.assertEqual(parting((12, (gate,)), (12, ())), 2047)
