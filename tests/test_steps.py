import copy
import itertools
import random
import unittest

from backrun.circuits import circuit_faults, run_circuit
from backrun.steps import apply_step, apply_steps
from backrun.tables import table
from tests.test_circuits import OTHERS, random_circuit, random_gate

WORDS = ("cancel", "pair", "exchange", "merge", "split", "pass")

# values that are no integer that could be meant as a number
NO_NUMBERS = (None, True, False, "0", "1", (), (0,), [0], 0.0, 1.0)


def gate(target, *controls):
    return (target, tuple(controls))


class StepTest(unittest.TestCase):
    def step(self, circuit, step):
        """What the step gives, when it has been looked at."""
        self.assertEqual(circuit_faults(circuit), [])
        before = copy.deepcopy((circuit, step))
        found = apply_step(circuit, step)
        self.assertEqual((circuit, step), before)
        if found is not None:
            self.assertEqual(circuit_faults(found), [])
            self.assertEqual(found[0], circuit[0])
            self.assertIs(type(found), tuple)
            if circuit[0] <= 8:
                self.assertEqual(table(found), table(circuit))
        return found

    def leads_to(self, wires, gates, step, want):
        """Look at the step at the beginning, in the middle and at the end of a circuit."""
        others = (gate(0), gate(wires - 1), gate(0))
        for ahead, behind in ((0, 0), (0, 2), (2, 0), (1, 1), (3, 3)):
            whole = (wires, others[:ahead] + tuple(gates) + others[:behind])
            moved = (step[0], step[1] + ahead) + step[2:]
            self.assertEqual(self.step(whole, moved), (wires, others[:ahead] + tuple(want) + others[:behind]), moved)

    def refused(self, wires, gates, step):
        """Look whether the step is refused, wherever the gates stand."""
        others = (gate(0), gate(wires - 1), gate(1))
        for ahead, behind in ((0, 0), (2, 0), (3, 0)):
            whole = (wires, others[:ahead] + tuple(gates) + others[:behind])
            moved = (step[0], step[1] + ahead) + step[2:]
            self.assertIsNone(self.step(whole, moved), moved)


class Cancel(StepTest):
    def test_accepted(self):
        for one in (gate(1), gate(0, (1, 1)), gate(2, (0, 0), (1, 1))):
            self.leads_to(3, (one, one), ("cancel", 0), ())

    def test_refused(self):
        one = gate(2, (0, 0), (1, 1))
        for other in (gate(2), gate(2, (0, 0)), gate(2, (0, 1), (1, 1)), gate(2, (0, 0), (1, 0)), gate(1, (0, 0), (2, 1)),
                      gate(2, (0, 0), (1, 1), (3, 1)), gate(3, (0, 0), (1, 1))):
            self.refused(4, (one, other), ("cancel", 0))
            self.refused(4, (other, one), ("cancel", 0))
        # equal, but no neighbours
        self.refused(4, (one, gate(3), one), ("cancel", 0))

    def test_numbers(self):
        circuit = (2, (gate(0),) * 4)
        for at in (0, 1, 2):
            self.assertEqual(self.step(circuit, ("cancel", at)), (2, (gate(0),) * 2))
        for at in (3, 4, 5, -1, -2, -4, 10 ** 30, -10 ** 30):
            self.assertIsNone(self.step(circuit, ("cancel", at)))


class Pair(StepTest):
    def test_accepted_at_each_place(self):
        gates = (gate(0), gate(1, (0, 1)), gate(2, (0, 0), (1, 0)))
        for one in (gate(0), gate(3), gate(1, (0, 0), (2, 1), (3, 1))):
            for at in range(4):
                want = (4, gates[:at] + (one, one) + gates[at:])
                self.assertEqual(self.step((4, gates), ("pair", at, one)), want)
            for at in (4, 5, -1, -3, 10 ** 20):
                self.assertIsNone(self.step((4, gates), ("pair", at, one)))

    def test_no_gates(self):
        self.assertEqual(self.step((1, ()), ("pair", 0, gate(0))), (1, (gate(0), gate(0))))
        self.assertIsNone(self.step((1, ()), ("pair", 1, gate(0))))
        self.assertIsNone(self.step((0, ()), ("pair", 0, gate(0))))

    def test_values_that_are_no_gate(self):
        circuit = (3, (gate(0), gate(1)))
        for value in OTHERS + (
            (True, ()), (False, ()), (0, ((True, 1),)), (0, ((1, True),)), (0, ((1, False),)), (0, ((1, 2),)), (0, ((1, -1),)),
            (0, ((2, 1), (1, 1))), (0, ((1, 1), (1, 1))), (0, ((0, 1),)), (0, [(1, 1)]), [0, ()], (0, ([1, 1],)), (0, (), ()),
            (0, ((1, 1, 1),)), (0.0, ()), ("0", ()),
        ):
            for at in (0, 1, 2):
                self.assertIsNone(self.step(circuit, ("pair", at, value)), value)

    def test_wires_that_are_not_there(self):
        circuit = (3, (gate(0), gate(1)))
        for one in (gate(3), gate(-1), gate(0, (3, 1)), gate(0, (-1, 1)), gate(2, (0, 1), (7, 0))):
            for at in (0, 1, 2):
                self.assertIsNone(self.step(circuit, ("pair", at, one)))


class Exchange(StepTest):
    def test_neither_target_is_looked_at(self):
        for one, other in (
            (gate(0), gate(1)), (gate(0), gate(0)), (gate(0, (2, 1)), gate(1, (2, 1))), (gate(0, (2, 1)), gate(0, (3, 0))),
            (gate(0, (2, 1), (3, 0)), gate(1, (3, 0))), (gate(0, (1, 1)), gate(0, (1, 1))), (gate(0, (1, 0)), gate(3, (2, 1))),
        ):
            self.leads_to(4, (one, other), ("exchange", 0), (other, one))
            self.leads_to(4, (other, one), ("exchange", 0), (one, other))

    def test_controls_that_are_opposed(self):
        for value in (0, 1):
            for one, other in (
                # the one's target is looked at by the other, or each one's by the other, or neither
                (gate(0, (2, value)), gate(1, (0, 1), (2, 1 - value))),
                (gate(0, (1, 1), (2, value)), gate(1, (0, 0), (2, 1 - value))),
                (gate(0, (2, value)), gate(0, (2, 1 - value))),
                (gate(0, (2, value)), gate(1, (2, 1 - value))),
                (gate(0, (2, 1), (3, value)), gate(1, (0, 1), (2, 1), (3, 1 - value))),
            ):
                self.leads_to(4, (one, other), ("exchange", 0), (other, one))
                self.leads_to(4, (other, one), ("exchange", 0), (one, other))

    def test_refused(self):
        for value in (0, 1):
            for one, other in (
                (gate(0), gate(1, (0, value))),
                (gate(0, (1, 1)), gate(1, (0, value))),
                (gate(0, (2, value)), gate(1, (0, 1), (2, value))),
                (gate(0, (1, 0), (2, 1)), gate(1, (0, value), (2, 1))),
                (gate(0, (2, 1)), gate(3, (0, value), (1, 0))),
            ):
                self.refused(4, (one, other), ("exchange", 0))
                self.refused(4, (other, one), ("exchange", 0))

    def test_numbers(self):
        circuit = (3, (gate(0), gate(1), gate(2)))
        self.assertEqual(self.step(circuit, ("exchange", 0)), (3, (gate(1), gate(0), gate(2))))
        self.assertEqual(self.step(circuit, ("exchange", 1)), (3, (gate(0), gate(2), gate(1))))
        for at in (2, 3, -1, -2, -3, 10 ** 25):
            self.assertIsNone(self.step(circuit, ("exchange", at)))


class Merge(StepTest):
    def test_another_value_at_one_wire(self):
        for value in (0, 1):
            for rest in ((), ((0, 0),), ((0, 1), (3, 0))):
                one = gate(1, *sorted(rest + ((2, value),)))
                other = gate(1, *sorted(rest + ((2, 1 - value),)))
                self.leads_to(4, (one, other), ("merge", 0), (gate(1, *rest),))

    def test_one_control_more(self):
        for value in (0, 1):
            for rest in ((), ((0, 0),), ((0, 1), (3, 0))):
                longer = gate(1, *sorted(rest + ((2, value),)))
                shorter = gate(1, *rest)
                want = gate(1, *sorted(rest + ((2, 1 - value),)))
                self.leads_to(4, (longer, shorter), ("merge", 0), (want,))
                self.leads_to(4, (shorter, longer), ("merge", 0), (want,))

    def test_refused(self):
        for one, other in (
            (gate(1), gate(1)), (gate(1, (0, 1)), gate(1, (0, 1))), (gate(0, (2, 1)), gate(1, (2, 0))), (gate(0), gate(1, (2, 1))),
            (gate(1, (0, 1)), gate(1, (2, 0))), (gate(1, (0, 1)), gate(1, (2, 1))),
            (gate(1, (0, 1), (2, 1)), gate(1, (0, 0), (2, 0))), (gate(1), gate(1, (0, 1), (2, 1))),
            (gate(1, (0, 1)), gate(1, (0, 0), (2, 1))), (gate(1, (0, 1), (2, 1)), gate(1, (0, 1), (3, 1))),
            (gate(1, (0, 1)), gate(1, (2, 1), (3, 1))), (gate(1, (0, 1), (2, 0)), gate(1, (2, 1), (3, 0))),
        ):
            self.refused(4, (one, other), ("merge", 0))
            self.refused(4, (other, one), ("merge", 0))

    def test_numbers(self):
        circuit = (2, (gate(0), gate(0, (1, 1)), gate(0)))
        self.assertEqual(self.step(circuit, ("merge", 0)), (2, (gate(0, (1, 0)), gate(0))))
        self.assertEqual(self.step(circuit, ("merge", 1)), (2, (gate(0), gate(0, (1, 0)))))
        for at in (2, 3, -1, -2, -3):
            self.assertIsNone(self.step(circuit, ("merge", at)))


class Split(StepTest):
    def test_accepted(self):
        self.leads_to(4, (gate(0),), ("split", 0, 3), (gate(0, (3, 0)), gate(0, (3, 1))))
        self.leads_to(4, (gate(3),), ("split", 0, 0), (gate(3, (0, 0)), gate(3, (0, 1))))
        self.leads_to(4, (gate(1, (0, 1), (3, 0)),), ("split", 0, 2),
                      (gate(1, (0, 1), (2, 0), (3, 0)), gate(1, (0, 1), (2, 1), (3, 0))))

    def test_refused(self):
        for wire in (1, 2, 4, 5, -1, -4, 10 ** 20) + NO_NUMBERS:
            self.refused(4, (gate(1, (2, 0)),), ("split", 0, wire))

    def test_numbers(self):
        circuit = (3, (gate(0), gate(1)))
        self.assertEqual(self.step(circuit, ("split", 1, 2)), (3, (gate(0), gate(1, (2, 0)), gate(1, (2, 1)))))
        for at in (2, 3, -1, -2):
            self.assertIsNone(self.step(circuit, ("split", at, 2)))
        self.assertIsNone(self.step((3, ()), ("split", 0, 2)))


class Pass(StepTest):
    def test_accepted(self):
        for value in (0, 1):
            self.leads_to(4, (gate(0), gate(1, (0, value))), ("pass", 0), (gate(1, (0, value)), gate(0), gate(1)))
            self.leads_to(4, (gate(0, (2, 1)), gate(1, (0, value))), ("pass", 0),
                          (gate(1, (0, value)), gate(0, (2, 1)), gate(1, (2, 1))))
            self.leads_to(4, (gate(2, (1, 0)), gate(0, (2, value), (3, 1))), ("pass", 0),
                          (gate(0, (2, value), (3, 1)), gate(2, (1, 0)), gate(0, (1, 0), (3, 1))))
            # a control that both have
            self.leads_to(5, (gate(2, (1, value), (3, 1)), gate(0, (1, value), (2, 1), (4, 0))), ("pass", 0),
                          (gate(0, (1, value), (2, 1), (4, 0)), gate(2, (1, value), (3, 1)),
                           gate(0, (1, value), (3, 1), (4, 0))))

    def test_refused(self):
        for value in (0, 1):
            for one, other in (
                (gate(0), gate(1)), (gate(0), gate(0)), (gate(0, (1, 1)), gate(1)), (gate(0, (2, 1)), gate(1, (2, 1))),
                # the other's target is looked at by the one
                (gate(0, (1, value)), gate(1, (0, 1))), (gate(0, (1, value), (2, 1)), gate(1, (0, 1), (2, 1))),
                (gate(0, (1, value)), gate(1)),
                # opposed controls
                (gate(0, (2, value)), gate(1, (0, 1), (2, 1 - value))),
                (gate(0, (2, value), (3, 0)), gate(1, (0, 1), (2, 1 - value), (3, 0))),
                # the other way round
                (gate(1, (0, value)), gate(0)), (gate(1, (0, value)), gate(0, (2, 1))),
            ):
                self.refused(4, (one, other), ("pass", 0))

    def test_numbers(self):
        circuit = (2, (gate(0), gate(1, (0, 1)), gate(0)))
        self.assertEqual(self.step(circuit, ("pass", 0)), (2, (gate(1, (0, 1)), gate(0), gate(1), gate(0))))
        for at in (1, 2, 3, -1, -2, -3):
            self.assertIsNone(self.step(circuit, ("pass", at)))


class AnyValue(StepTest):
    CIRCUIT = (3, (gate(0), gate(0), gate(1, (0, 1)), gate(1)))

    def test_other_values(self):
        for value in OTHERS + (("cancel",), ["cancel", 0], "cancel", ("cancel", 0, 0), ("Cancel", 0), (b"cancel", 0),
                               ("undo", 0), ("", 0), (None, 0), (["cancel"], 0), (("cancel",), 0), ("pair", 0),
                               ("pair", 0, gate(0), 0), ("split", 0), ("split", 0, 2, 2), ("exchange", 0, 1), ("merge", 0, 0),
                               ("pass", 1, ()), ((), 0), (0, "cancel"), {"cancel": 0}, ("pair", gate(0), 0), (1.5, 0)):
            self.assertIsNone(self.step(self.CIRCUIT, value), value)

    def test_numbers_of_other_kinds(self):
        for number in NO_NUMBERS:
            for step in (("cancel", number), ("pair", number, gate(0)), ("exchange", number), ("merge", number),
                         ("split", number, 2), ("pass", number)):
                self.assertIsNone(self.step(self.CIRCUIT, step), step)
                self.assertIsNone(self.step((3, (gate(0), gate(1, (0, 1)), gate(1))), step), step)

    def test_no_gates(self):
        for word in WORDS:
            for wires in (0, 3):
                self.assertIsNone(self.step((wires, ()), (word, 0)))
                self.assertIsNone(self.step((wires, ()), (word, 0, 1)))

    def test_random_ones(self):
        accepted = {word: 0 for word in WORDS}
        for seed in range(300):
            chance = random.Random(seed)
            wires = chance.randrange(2, 6)
            circuit = random_circuit(seed, wires, chance.randrange(0, 8))
            for word, at in itertools.product(WORDS, range(-1, len(circuit[1]) + 1)):
                more = {"pair": (random_gate(chance, wires),), "split": (chance.randrange(-1, wires + 1),)}.get(word, ())
                found = self.step(circuit, (word, at) + more)
                self.assertEqual(found, judged(circuit, (word, at) + more))
                accepted[word] += found is not None
        self.assertGreater(min(accepted.values()), 20, accepted)


def judged(circuit, step):
    """The circuit behind a step, by the table's words, or None."""
    wires, gates = circuit
    word, at = step[:2]
    parts = [(target, set(controls)) for target, controls in gates]
    if word == "pair":
        return (wires, gates[:at] + (step[2], step[2]) + gates[at:]) if 0 <= at <= len(gates) else None
    if not 0 <= at < len(gates) or word != "split" and at + 1 >= len(gates):
        return None

    def behind(count, *rows):
        return (wires, gates[:at] + tuple((t, tuple(sorted(c))) for t, c in rows) + gates[at + count:])
    t, c = parts[at]
    if word == "split":
        free = 0 <= step[2] < wires and step[2] != t and step[2] not in dict(c)
        return behind(1, (t, c | {(step[2], 0)}), (t, c | {(step[2], 1)})) if free else None
    u, d = parts[at + 1]
    opposed = any((w, 1 - v) in d for w, v in c)
    if word == "cancel":
        return behind(2) if (t, c) == (u, d) else None
    if word == "exchange":
        good = t not in dict(d) and u not in dict(c) or opposed
        return behind(2, (u, d), (t, c)) if good else None
    if word == "pass":
        good = t in dict(d) and u not in dict(c) and not opposed
        return behind(2, (u, d), (t, c), (u, c | {(w, v) for w, v in d if w != t})) if good else None
    if t != u:
        return None
    if len(c) == len(d) and len(c - d) == 1 and dict(c).keys() == dict(d).keys():
        return behind(2, (t, c & d))
    if len(c ^ d) == 1:
        ((w, v),) = c ^ d
        return behind(2, (t, c & d | {(w, 1 - v)}))
    return None


class Lists(StepTest):
    CIRCUIT = (3, (gate(0), gate(1, (0, 1)), gate(2), gate(2)))
    STEPS = (("cancel", 2), ("pass", 0), ("pair", 3, gate(2, (0, 1))), ("split", 2, 2), ("exchange", 1))

    def test_no_steps(self):
        self.assertEqual(apply_steps(self.CIRCUIT, ()), (self.CIRCUIT, -1))
        self.assertEqual(apply_steps((0, ()), ()), ((0, ()), -1))

    def test_all_accepted(self):
        circuit = self.CIRCUIT
        for at, step in enumerate(self.STEPS):
            circuit = self.step(circuit, step)
            self.assertIsNotNone(circuit)
            self.assertEqual(apply_steps(self.CIRCUIT, self.STEPS[:at + 1]), (circuit, -1))
        before = copy.deepcopy(self.CIRCUIT)
        found = apply_steps(self.CIRCUIT, self.STEPS)
        self.assertIs(type(found), tuple)
        self.assertEqual(table(found[0]), table(self.CIRCUIT))
        self.assertEqual(self.CIRCUIT, before)

    def test_a_refused_one_at_each_place(self):
        for bad in (("cancel", 0), ("merge", 99), None, ("cancel", True), 5, [], ("pair", 0, gate(3))):
            for at in range(len(self.STEPS) + 1):
                steps = self.STEPS[:at] + (bad,) + self.STEPS[at:]
                self.assertEqual(apply_steps(self.CIRCUIT, steps), (None, at))
                # the first one counts
                self.assertEqual(apply_steps(self.CIRCUIT, steps + (bad,)), (None, at))

    def test_no_tuple(self):
        for value in (None, True, 0, "", "cancel", [], [("cancel", 2)], {}, {("cancel", 2): 1}, b"", 1.5):
            self.assertEqual(apply_steps(self.CIRCUIT, value), (None, 0))

    def test_random_lists(self):
        for seed in range(200):
            chance = random.Random(seed)
            wires = chance.randrange(2, 6)
            first = random_circuit(seed, wires, 5)
            circuit, steps = first, []
            for _ in range(40):
                word, at = chance.choice(WORDS), chance.randrange(len(circuit[1]) + 1)
                more = {"pair": (random_gate(chance, wires),), "split": (chance.randrange(wires),)}.get(word, ())
                found = apply_step(circuit, (word, at) + more)
                if found is not None and len(found[1]) < 40:
                    circuit = found
                    steps.append((word, at) + more)
            self.assertEqual(apply_steps(first, tuple(steps)), (circuit, -1))
            self.assertEqual(table(circuit), table(first))
            bits = tuple(chance.randrange(2) for _ in range(wires))
            self.assertEqual(run_circuit(circuit, bits), run_circuit(first, bits))
