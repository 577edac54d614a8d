"""Tables: the numbers that circuits make of all numbers, and circuits for them."""


def as_number(bits):
    """The number of which the bits are, the lowest one first."""
    number = 0
    for bit in reversed(bits):
        number = number * 2 + bit
    return number


def as_bits(number, wires):
    """The tuple of so many lowest bits of a number, the lowest one first."""
    return tuple([(number >> wire) & 1 for wire in range(wires)])


def table(circuit):
    """The tuple of the numbers behind the circuit for all inputs, ascending."""
    wires, gates = circuit
    images = list(range(1 << wires))
    for gate in gates:
        images = turned(images, gate)
    return tuple(images)


def turned(images, gate):
    """The numbers behind a gate."""
    target, controls = gate
    looked_at = sum([1 << wire for wire, _ in controls])
    wanted = sum([value << wire for wire, value in controls])
    bit = 1 << target
    return [image ^ bit if image & looked_at == wanted else image for image in images]


def from_table(row):
    """A circuit of which the row is the table."""
    wires = len(row).bit_length() - 1
    images = list(row)
    gates = []
    for k in range(len(row)):
        for wire in range(wires):
            if lacks(images[k], k, wire):
                # The present image has the bits that were turned before, too.
                gates.append((wire, all_ones(images[k], wires)))
                images = turned(images, gates[-1])
        for wire in range(wires):
            if lacks(k, images[k], wire):
                gates.append((wire, all_ones(k, wires)))
                images = turned(images, gates[-1])
    return (wires, tuple(gates[::-1]))


def lacks(number, other, wire):
    """Whether a number lacks a bit that another one has."""
    return (other & (1 << wire)) != 0 and (number & (1 << wire)) == 0


def all_ones(number, wires):
    """The controls 1 on the bits that a number has."""
    return tuple([(wire, 1) for wire in range(wires) if number & (1 << wire)])


def parting(first, second):
    """The least input that two circuits lead to different outputs, or None."""
    for k, (one, other) in enumerate(zip(table(first), table(second))):
        if one != other:
            return k
    return None
