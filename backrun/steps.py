"""Steps that change a circuit, but not the map that it is: the checker that judges them."""

from backrun.circuits import gate_fault, wires_of
from backrun.forms import begins_with_word, is_count, is_integer


def apply_step(circuit, step):
    """The circuit behind a step of any kind of value, or None if the step is refused."""
    if not begins_with_word(step) or len(step) < 2 or not is_count(step[1]):
        return None
    wires, gates = circuit
    word, at = step[0], step[1]
    if word in OF_TWO and len(step) == 2:
        count = 2
        instead = two_instead(word, gates[at:at + 2])
    elif word == "pair" and len(step) == 3:
        count = 0
        instead = twice(wires, step[2]) if at <= len(gates) else None
    elif word == "split" and len(step) == 3:
        count = 1
        instead = split_gate(wires, gates[at], step[2]) if at < len(gates) else None
    else:
        return None
    if instead is None:
        return None
    return (wires, gates[:at] + instead + gates[at + count:])


def apply_steps(circuit, steps):
    """The pair (circuit, -1) behind all steps, or (None, k) for the first one that is refused."""
    if not isinstance(steps, tuple):
        return None, 0
    for at, step in enumerate(steps):
        circuit = apply_step(circuit, step)
        if circuit is None:
            return None, at
    return circuit, -1


def two_instead(word, gates):
    """What two neighbours become, or None if it is refused or there are no two."""
    if len(gates) < 2:
        return None
    action = OF_TWO[word]
    return action(gates[0], gates[1])


def cancelled(first, second):
    """What remains of two equal gates; this and the next ones give None where the step is refused."""
    return () if first == second else None


def exchanged(first, second):
    """Two gates in the other order."""
    return (second, first) if can_exchange(first, second) else None


def merged(first, second):
    """The one gate, in a tuple, that does the same as two."""
    gate = merged_gate(first, second)
    return None if gate is None else (gate,)


def passed(first, second):
    """Two gates in the other order, with a third one that makes up for what the first one changes in the second."""
    target, controls = first
    follower, looked_at = second
    if follower in wires_of(first) or target not in dict(looked_at) or are_opposed(controls, looked_at):
        return None
    both = {**dict(controls), **dict(looked_at)}
    del both[target]
    return (second, first, (follower, tuple(sorted(both.items()))))


OF_TWO = {"cancel": cancelled, "exchange": exchanged, "merge": merged, "pass": passed}


def can_exchange(first, second):
    """Whether two neighbouring gates do the same in the other order."""
    target, controls = first
    follower, looked_at = second
    if target not in dict(looked_at) and follower not in dict(controls):
        return True
    return are_opposed(controls, looked_at)


def are_opposed(controls, others):
    """Whether a wire is among both controls with different values, so that they never hold at once."""
    values = dict(others)
    return any([values.get(wire, value) != value for wire, value in controls])


def merged_gate(first, second):
    """The gate that does the same as two, or None if they are none that merge takes."""
    if first[0] != second[0]:
        return None
    target, controls = first
    others = second[1]
    left = [control for control in controls if control not in others]
    right = [control for control in others if control not in controls]
    if len(left) == 1 and len(right) == 1 and left[0][0] == right[0][0]:
        return (target, tuple([control for control in controls if control in others]))
    if len(left) + len(right) != 1:
        return None
    # Where the longer one's additional control holds both turn the target, so that it stays.
    extra = (left + right)[0]
    longer = controls if left else others
    return (target, tuple([other_value(control) if control == extra else control for control in longer]))


def other_value(control):
    """The control on the same wire with the other value."""
    return (control[0], 1 - control[1])


def twice(wires, gate):
    """A gate, which may be any kind of value, twice; None if it is none of so many wires."""
    return (gate, gate) if gate_fault(wires, gate) is None else None


def split_gate(wires, gate, wire):
    """Two gates that do the same as one, with a control 0 and then 1 on a wire; None if it is refused."""
    if not is_integer(wire, 0, wires - 1) or wire in wires_of(gate):
        return None
    target, controls = gate
    return tuple([(target, tuple(sorted(controls + ((wire, value),)))) for value in (0, 1)])
