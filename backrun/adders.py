"""Gates that add and compare numbers on wires, the lowest bit first."""

from backrun.bits import adding_gates, gates_if


def add_into(target, source, controls):
    """The tuple of gates that adds the source's number to the target's if all controls hold."""
    return tuple(adding_gates(target, [list(controls) + [(wire, 1)] for wire in source]))


def less_into(wire, first, second, spare, controls):
    """The tuple of gates that turns the wire if first's number is less than second's and all controls hold.

    The spare wires stay as they are: the bits of second serve instead, and get their values back.
    """
    unequal = [(two, ((one, 1),)) for one, two in zip(first, second)]
    gates = []
    for at in range(len(first) - 1, -1, -1):
        # Above this bit, second's wires tell by now where the numbers differ.
        same_above = [(two, 0) for two in second[at + 1:]]
        gates.extend(gates_if(wire, list(controls) + [(first[at], 0), (second[at], 1)] + same_above))
        gates.append(unequal[at])
    return tuple(gates + unequal)
