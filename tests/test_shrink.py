import copy
import random
import unittest

from backrun.circuits import circuit_faults, inverse_circuit, then
from backrun.shrink import cancelling, merging, shrink
from backrun.steps import apply_step, apply_steps
from backrun.synth import synthesize
from backrun.tables import from_table, table
from tests.straight_samples import StraightMaker
from tests.test_circuits import random_circuit


def gate(target, *controls):
    return (target, tuple(controls))


def first_found(circuit, word):
    """The steps for the least i and for it the least j, tried one after the other; and the circuit behind them."""
    many = len(circuit[1])
    for i in range(many):
        for j in range(i + 1, many):
            row = [("exchange", k) for k in range(j - 1, i, -1)] + [(word, i)]
            found, _ = apply_steps(circuit, tuple(row))
            if found is not None:
                return row, found
    return [], circuit


def all_found(circuit, word):
    steps = []
    row, circuit = first_found(circuit, word)
    while row:
        steps += row
        row, circuit = first_found(circuit, word)
    return tuple(steps), circuit


class PassTest(unittest.TestCase):
    def found(self, search, word, circuit):
        """What a search finds, when it has been looked at."""
        self.assertEqual(circuit_faults(circuit), [])
        before = copy.deepcopy(circuit)
        steps = search(circuit)
        self.assertEqual(circuit, before)
        self.assertIs(type(steps), tuple)
        self.assertEqual(steps, all_found(circuit, word)[0])
        return steps

    def cancels(self, wires, *gates):
        return self.found(cancelling, "cancel", (wires, gates))

    def merges(self, wires, *gates):
        return self.found(merging, "merge", (wires, gates))


class Cancelling(PassTest):
    def test_nothing(self):
        self.assertEqual(self.cancels(0), ())
        self.assertEqual(self.cancels(3), ())
        self.assertEqual(self.cancels(3, gate(0)), ())
        self.assertEqual(self.cancels(3, gate(0), gate(1), gate(2), gate(0, (1, 1))), ())

    def test_neighbours(self):
        self.assertEqual(self.cancels(1, gate(0), gate(0)), (("cancel", 0),))
        self.assertEqual(self.cancels(2, gate(1), gate(0, (1, 1)), gate(0, (1, 1))), (("cancel", 1),))

    def test_three_and_four_equal_ones(self):
        self.assertEqual(self.cancels(1, gate(0), gate(0), gate(0)), (("cancel", 0),))
        self.assertEqual(self.cancels(1, gate(0), gate(0), gate(0), gate(0)), (("cancel", 0), ("cancel", 0)))

    def test_across_others(self):
        self.assertEqual(self.cancels(3, gate(0), gate(1), gate(2), gate(0)),
                         (("exchange", 2), ("exchange", 1), ("cancel", 0)))
        self.assertEqual(self.cancels(3, gate(1), gate(0, (2, 1)), gate(1, (2, 0)), gate(0, (2, 1)), gate(2)),
                         (("exchange", 2), ("cancel", 1)))

    def test_across_opposed_controls(self):
        self.assertEqual(self.cancels(3, gate(0, (2, 1)), gate(1, (0, 1), (2, 0)), gate(0, (2, 1))),
                         (("exchange", 1), ("cancel", 0)))

    def test_what_is_in_the_way(self):
        for between in (gate(1, (0, 1)), gate(2), gate(2, (0, 0), (1, 1))):
            self.assertEqual(self.cancels(3, gate(0, (2, 1)), between, gate(0, (2, 1))), ())
        self.assertEqual(self.cancels(3, gate(0), gate(1, (0, 1)), gate(2), gate(0)), ())
        # the first gate could be brought behind the others, but the later one not ahead of them
        self.assertEqual(self.cancels(3, gate(0, (1, 1)), gate(2), gate(1), gate(0, (1, 1))), ())

    def test_the_least_first_gate(self):
        # both pairs fit; that with the lesser i comes first, though its gates are further apart
        self.assertEqual(self.cancels(3, gate(0), gate(1), gate(1), gate(0)),
                         (("exchange", 2), ("exchange", 1), ("cancel", 0), ("cancel", 0)))
        self.assertEqual(self.cancels(3, gate(0, (1, 1)), gate(1, (0, 1)), gate(2), gate(2), gate(1, (0, 1))),
                         (("exchange", 3), ("exchange", 2), ("cancel", 1), ("cancel", 1)))

    def test_the_least_second_gate(self):
        self.assertEqual(self.cancels(2, gate(0), gate(1), gate(0), gate(1), gate(0)),
                         (("exchange", 1), ("cancel", 0), ("cancel", 0)))

    def test_a_pair_that_arises(self):
        one, other = gate(0, (1, 1)), gate(1, (0, 1))
        self.assertEqual(self.cancels(2, one, other, other, one), (("cancel", 1), ("cancel", 0)))
        # behind the first cancel there are two pairs; that with the lesser i is taken, ahead of where the cancel was
        self.assertEqual(self.cancels(3, one, other, other, one, gate(2), gate(2)),
                         (("cancel", 1), ("cancel", 0), ("cancel", 0)))
        # the gate that is brought across comes away from where it was in the way
        third = gate(2, (0, 1))
        self.assertEqual(self.cancels(3, third, one, gate(1, (2, 1)), gate(1, (2, 1)), one, third),
                         (("cancel", 2), ("cancel", 1), ("cancel", 0)))

    def test_gates_that_merge_takes_stay(self):
        self.assertEqual(self.cancels(2, gate(0, (1, 1)), gate(0, (1, 0))), ())


class Merging(PassTest):
    def test_nothing(self):
        self.assertEqual(self.merges(0), ())
        self.assertEqual(self.merges(3), ())
        self.assertEqual(self.merges(3, gate(0)), ())
        self.assertEqual(self.merges(3, gate(0), gate(0)), ())
        self.assertEqual(self.merges(3, gate(0, (1, 1)), gate(0, (2, 1))), ())

    def test_neighbours(self):
        self.assertEqual(self.merges(2, gate(0, (1, 1)), gate(0, (1, 0))), (("merge", 0),))
        self.assertEqual(self.merges(2, gate(1), gate(0), gate(0, (1, 0))), (("merge", 1),))

    def test_across_others(self):
        self.assertEqual(self.merges(4, gate(0, (3, 1)), gate(1), gate(2, (3, 0)), gate(0, (3, 0))),
                         (("exchange", 2), ("exchange", 1), ("merge", 0)))
        # only the later gate is brought across: it may pass where the earlier one may not
        self.assertEqual(self.merges(3, gate(0, (1, 1), (2, 1)), gate(1, (0, 0), (2, 1)), gate(0, (1, 1), (2, 0))),
                         (("exchange", 1), ("merge", 0)))
        self.assertEqual(self.merges(3, gate(0, (1, 1), (2, 0)), gate(1, (0, 0), (2, 1)), gate(0, (1, 1), (2, 1))), ())

    def test_what_is_in_the_way(self):
        self.assertEqual(self.merges(3, gate(0, (1, 1)), gate(1), gate(0, (1, 0))), ())
        self.assertEqual(self.merges(3, gate(0, (1, 1)), gate(2, (0, 1)), gate(0)), ())

    def test_the_least_gates(self):
        # the first gate fits two others: the nearer one is taken
        self.assertEqual(self.merges(3, gate(0, (1, 1)), gate(0, (1, 0)), gate(0)), (("merge", 0),))
        self.assertEqual(self.merges(3, gate(0, (1, 1)), gate(2), gate(0), gate(0, (1, 0))),
                         (("exchange", 1), ("merge", 0)))
        # two pairs: that of the lesser i
        self.assertEqual(self.merges(4, gate(0, (1, 1)), gate(2, (3, 1)), gate(2, (3, 0)), gate(0, (1, 0))),
                         (("exchange", 2), ("exchange", 1), ("merge", 0), ("merge", 1)))

    def test_a_pair_that_arises(self):
        # the merged gate fits the next one
        gates = [gate(0, (1, one), (2, two)) for one in (0, 1) for two in (0, 1)]
        self.assertEqual(self.merges(3, *gates), (("merge", 0), ("merge", 1), ("merge", 0)))
        # a gate that was in the way becomes one that is none
        self.assertEqual(self.merges(3, gate(0, (2, 1)), gate(1, (2, 1)), gate(1, (2, 0)), gate(0, (2, 0))),
                         (("exchange", 2), ("exchange", 1), ("merge", 0), ("merge", 1)))
        # the merged gate is in the way of one that its parts let pass
        self.assertEqual(self.merges(3, gate(2), gate(1, (2, 0)), gate(1, (2, 1)), gate(2, (1, 1))), (("merge", 1),))
        # a gate in the way is opposed behind a merge
        self.assertEqual(
            self.merges(4, gate(0, (1, 1), (2, 1)), gate(1, (0, 1)), gate(1, (0, 1), (2, 1)), gate(0, (1, 1), (2, 1), (3, 1))),
            (("merge", 1), ("exchange", 1), ("merge", 0)))

    def test_equal_gates_stay(self):
        self.assertEqual(self.merges(2, gate(0, (1, 1)), gate(0, (1, 1))), ())


class Random(PassTest):
    def test_against_the_words_of_the_document(self):
        sizes = [0, 0]
        for seed in range(400):
            chance = random.Random(seed)
            circuit = random_circuit(seed, chance.randrange(1, 6), chance.randrange(0, 22))
            for at, (search, word) in enumerate(((cancelling, "cancel"), (merging, "merge"))):
                sizes[at] += len(self.found(search, word, circuit)) > 1
        self.assertGreater(min(sizes), 40)


class Shrink(unittest.TestCase):
    def look_at(self, circuit):
        """What shrink gives, when it has been looked at."""
        before = copy.deepcopy(circuit)
        found = shrink(circuit)
        self.assertEqual(circuit, before)
        self.assertIs(type(found), tuple)
        smaller, steps = found
        self.assertIs(type(steps), tuple)
        self.assertEqual(circuit_faults(smaller), [])
        self.assertEqual(apply_steps(circuit, steps), (smaller, -1))
        self.assertLessEqual(len(smaller[1]), len(circuit[1]))
        self.assertEqual(cancelling(smaller), ())
        self.assertEqual(merging(smaller), ())
        if circuit[0] <= 12:
            self.assertEqual(table(smaller), table(circuit))
        return found

    def test_no_gates(self):
        for wires in (0, 1, 5):
            self.assertEqual(self.look_at((wires, ())), ((wires, ()), ()))

    def test_by_hand(self):
        self.assertEqual(self.look_at((1, (gate(0), gate(0)))), ((1, ()), (("cancel", 0),)))
        self.assertEqual(self.look_at((2, (gate(0, (1, 1)), gate(0, (1, 0))))), ((2, (gate(0),)), (("merge", 0),)))
        # the merge makes a gate that a cancel takes
        circuit = (2, (gate(0), gate(0, (1, 1)), gate(0, (1, 0))))
        self.assertEqual(self.look_at(circuit), ((2, ()), (("merge", 0), ("cancel", 0))))

    def test_turns(self):
        # by turns: cancels first, then merges, then cancels that the merges made possible
        circuit = (3, (gate(2), gate(1, (2, 1)), gate(0, (1, 0)), gate(0, (1, 1)), gate(1, (2, 1)), gate(2)))
        smaller, steps = self.look_at(circuit)
        self.assertEqual(smaller, (3, (gate(0),)))

    def test_all_together(self):
        for seed in range(300):
            chance = random.Random(seed)
            circuit = random_circuit(seed, chance.randrange(1, 7), chance.randrange(0, 30))
            smaller, steps = self.look_at(circuit)
            # the searches in turn, until none finds a step
            want, now = (), circuit
            while True:
                cancels, now = all_found(now, "cancel")
                merges, now = all_found(now, "merge")
                want += cancels + merges
                if not cancels and not merges:
                    break
            self.assertEqual((smaller, steps), (now, want))

    def test_a_circuit_and_its_inverse(self):
        for seed in range(40):
            circuit = random_circuit(seed, 4, 15)
            self.assertEqual(self.look_at(then(circuit, inverse_circuit(circuit)))[0], (4, ()))

    def test_circuits_of_tables(self):
        for seed in range(10):
            row = list(range(32))
            random.Random(seed).shuffle(row)
            circuit = from_table(tuple(row))
            smaller, _ = self.look_at(circuit)
            self.assertLess(len(smaller[1]), len(circuit[1]))

    def test_circuits_of_programs(self):
        declared = (("a", 0), ("b", 0), ("r", 3))
        for seed in range(30):
            self.look_at(synthesize(StraightMaker(seed, 1 + seed % 4, declared).program())[0])

    def test_one_step_at_a_time(self):
        circuit = random_circuit(11, 4, 25)
        smaller, steps = shrink(circuit)
        now = circuit
        for step in steps:
            now = apply_step(now, step)
            self.assertEqual(table(now), table(circuit))
        self.assertEqual(now, smaller)
