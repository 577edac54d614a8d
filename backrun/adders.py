"""Gates that add and compare numbers on wires, the lowest bit first."""


def add_into(target, source, controls):
    """The tuple of gates that adds the source's number to the target's if all controls hold."""
    gates = []
    for low, bit in enumerate(source):
        # One more from this bit on: the highest bits are turned first, as long as those below them are still to be.
        for high in range(len(target) - 1, low - 1, -1):
            carried = [(wire, 1) for wire in target[low:high]]
            gates.append(gate(target[high], list(controls) + [(bit, 1)] + carried))
    return tuple(gates)


def less_into(wire, first, second, spare, controls):
    """The tuple of gates that turns the wire if first's number is less than second's and all controls hold.

    The spare wires stay as they are: the bits of second serve instead, and get their values back.
    """
    unequal = [gate(two, [(one, 1)]) for one, two in zip(first, second)]
    gates = []
    for at in range(len(first) - 1, -1, -1):
        # Above this bit, second's wires tell by now where the numbers differ.
        same_above = [(two, 0) for two in second[at + 1:]]
        gates.append(gate(wire, list(controls) + [(first[at], 0), (second[at], 1)] + same_above))
        gates.append(unequal[at])
    return tuple(gates + unequal)


def gate(target, controls):
    """The gate with these controls, in any order."""
    return (target, tuple(sorted(controls)))
