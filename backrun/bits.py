"""Bits that gates look at, and the gates that change wires by them.

A bit is True, False, or a pair (wire, value) as in a gate's controls: it is 1 if the wire has the value.
"""


def opposite(bit):
    """The bit that is 1 just if a bit is 0."""
    if bit is True or bit is False:
        return not bit
    return (bit[0], 1 - bit[1])


def opposites(bits):
    """The opposite of each bit."""
    return [opposite(bit) for bit in bits]


def number_bits(number, many):
    """So many bits of a number, the lowest one first."""
    return [(number >> at) & 1 == 1 for at in range(many)]


def wire_bits(wires):
    """The bits that wires have."""
    return [(wire, 1) for wire in wires]


def bits_are(bits, number):
    """The bits that are all 1 just if bits are those of a number."""
    return [bit if (number >> at) & 1 else opposite(bit) for at, bit in enumerate(bits)]


def controls_of(bits):
    """The ascending tuple of controls that hold just if all bits are 1, or None if they never are."""
    wanted = {}
    for bit in bits:
        if bit is False:
            return None
        if bit is not True:
            wire, value = bit
            if wanted.setdefault(wire, value) != value:
                return None
    return tuple(sorted(wanted.items()))


def gates_if(target, bits):
    """The gates, one or none, that turn the target if all bits are 1."""
    controls = controls_of(bits)
    return [] if controls is None else [(target, controls)]


def adding_gates(target, conditions):
    """The gates that add 2**k to the number on the target wires for each k where all bits of conditions[k] are 1."""
    gates = []
    for low, condition in enumerate(conditions):
        # One more from this bit on: the highest bits are turned first, as long as those below them are still to be.
        for high in range(len(target) - 1, low - 1, -1):
            gates.extend(gates_if(target[high], condition + wire_bits(target[low:high])))
    return gates


def undone(gates):
    """The gates that undo gates."""
    return gates[::-1]


def around(setup, middle):
    """A setup, what stands in the middle, and what undoes the setup."""
    return setup + middle + undone(setup)
