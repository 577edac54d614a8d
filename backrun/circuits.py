"""Circuits of reversible gates."""

from backrun.forms import is_count, is_integer, is_whole


def circuit_faults(value):
    """The ascending list of the pairs (index of the gate, code) of a value of any kind as a circuit."""
    if not isinstance(value, tuple) or len(value) != 2:
        return [(-1, "form")]
    wires, gates = value
    if not is_count(wires) or not isinstance(gates, tuple):
        return [(-1, "form")]
    found = [(at, gate_fault(wires, gate)) for at, gate in enumerate(gates)]
    return [(at, fault) for at, fault in found if fault is not None]


def gate_fault(wires, value):
    """The code of the first fault of a value of any kind as a gate among so many wires, or None if it has none."""
    if not is_gate(value):
        return "gate"
    if not all([0 <= wire < wires for wire in wires_of(value)]):
        return "wire"
    return None


def is_gate(value):
    """Whether a value has the form of a gate, whatever wires there are."""
    if not is_pair(value) or not is_whole(value[0]) or not isinstance(value[1], tuple):
        return False
    if not all([is_control(item) for item in value[1]]):
        return False
    named = [wire for wire, _ in value[1]]
    is_ascending = all([before < behind for before, behind in zip(named, named[1:])])
    return is_ascending and value[0] not in named


def is_pair(value):
    """Whether a value is a tuple of two."""
    return isinstance(value, tuple) and len(value) == 2


def is_control(value):
    """Whether a value is a pair of a wire's number and 0 or 1."""
    return is_pair(value) and is_whole(value[0]) and is_integer(value[1], 0, 1)


def wires_of(gate):
    """The wires that a gate uses."""
    target, controls = gate
    return [target] + [wire for wire, _ in controls]


def run_circuit(circuit, bits):
    """The tuple of the bits behind all gates."""
    now = list(bits)
    for target, controls in circuit[1]:
        for wire, value in controls:
            if now[wire] != value:
                break
        else:
            now[target] = 1 - now[target]
    return tuple(now)


def inverse_circuit(circuit):
    """The circuit with the gates in the other order."""
    wires, gates = circuit
    return (wires, gates[::-1])


def then(first, second):
    """The circuit that does the one and then the other."""
    return (first[0], first[1] + second[1])


def on_wires(circuit, wires, places):
    """The circuit among so many wires, with places[k] for its wire k."""
    return (wires, tuple([moved(gate, places) for gate in circuit[1]]))


def moved(gate, places):
    """The gate with places[k] for wire k."""
    target, controls = gate
    return (places[target], tuple(sorted([(places[wire], value) for wire, value in controls])))


def counts(circuit):
    """The ascending list of the pairs (number of controls, gates)."""
    found = {}
    for _, controls in circuit[1]:
        found[len(controls)] = found.get(len(controls), 0) + 1
    return sorted(found.items())


def depth(circuit):
    """The number of layers, if each gate stands in the first one that the gates ahead of it leave to it."""
    # By the wires: the last layer in which a gate uses it.
    layers = {}
    for gate in circuit[1]:
        used = wires_of(gate)
        layer = 1 + max([layers.get(wire, 0) for wire in used])
        for wire in used:
            layers[wire] = layer
    return max(layers.values(), default=0)


def touched(circuit):
    """The ascending tuple of the wires that are a target."""
    return tuple(sorted({target for target, _ in circuit[1]}))
