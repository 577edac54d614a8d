"""The gates that work out expressions on wires that are 0, and that tell which word a place means."""

from backrun.bits import (
    adding_gates, around, bits_are, controls_of, gates_if, number_bits, opposite, opposites, undone, wire_bits,
)
from backrun.programs import parts
from backrun.tables import as_number


def add_bits(wiring, first, second):
    """The bits of a sum."""
    wires = wiring.copied(first)
    wiring.gates.extend(adding_gates(wires, [[bit] for bit in second]))
    return wire_bits(wires)


def sub_bits(wiring, first, second):
    """The bits of a difference."""
    wires = wiring.copied(first)
    wiring.gates.extend(undone(adding_gates(wires, [[bit] for bit in second])))
    return wire_bits(wires)


def mul_bits(wiring, first, second):
    """The bits of a product."""
    wires = wiring.fresh(len(first))
    for at, bit in enumerate(first):
        shifted = second[:len(second) - at]
        wiring.gates.extend(adding_gates(wires[at:], [[bit, other] for other in shifted]))
    return wire_bits(wires)


def and_bits(wiring, first, second):
    """The bits of and."""
    return [wiring.total([[one, other]]) for one, other in zip(first, second)]


def or_bits(wiring, first, second):
    """The bits of or."""
    return opposites(and_bits(wiring, opposites(first), opposites(second)))


def xor_bits(wiring, first, second):
    """The bits of xor."""
    return [wiring.total([[one], [other]]) for one, other in zip(first, second)]


def less_bits(wiring, first, second):
    """The bits of less."""
    same = [True] + opposites(xor_bits(wiring, first[1:], second[1:]))
    terms = []
    for at in range(len(first)):
        # At the highest bit that differs, the lesser number has 0.
        terms.append([opposite(first[at]), second[at]] + same[at + 1:])
    return truth(wiring.total(terms), len(first))


def equal_bits(wiring, first, second):
    """The bits of equal."""
    return truth(wiring.total([opposites(xor_bits(wiring, first, second))]), len(first))


def shl_bits(wiring, first, second):
    """The bits of shl."""
    found = []
    for at in range(len(first)):
        found.append(wiring.total([[first[at - by]] + bits_are(second, by) for by in range(at + 1)]))
    return found


def shr_bits(wiring, first, second):
    """The bits of shr."""
    # From the other end, the bits go the same way as in shl.
    return shl_bits(wiring, first[::-1], second)[::-1]


def truth(bit, width):
    """The bits of a word that is 1 or 0."""
    return [bit] + [False] * (width - 1)


ACTIONS = {
    "add": add_bits, "sub": sub_bits, "mul": mul_bits, "and": and_bits, "or": or_bits, "xor": xor_bits,
    "less": less_bits, "equal": equal_bits, "shl": shl_bits, "shr": shr_bits,
}


def terms_where(bits, row):
    """The terms of which one is 1, and no other, where the row is True at the number of the bits."""
    if not any(row):
        return []
    if all(row):
        return [[]]
    half = len(row) // 2
    low, high = row[:half], row[half:]
    rest, last = bits[:-1], bits[-1]
    if low == high:
        return terms_where(rest, low)
    found = [[opposite(last)] + term for term in terms_where(rest, low)]
    return found + [[last] + term for term in terms_where(rest, high)]


def is_fixed(words, index):
    """Whether it is told by now which word of an array an index means."""
    return len(words) == 1 or all([bit is True or bit is False for bit in index])


class Choice:
    """A word that a place may mean: behind the setup, the bit tells whether it does."""

    def __init__(self, setup, bit, wires):
        self.setup = setup
        self.bit = bit
        self.wires = wires


class Wiring:
    """The gates that work out expressions; look has the words of each name, a word being a tuple of wires.

    What an expression needs stands on wires from used on, which are 0 ahead of the gates; undoing the gates makes them
    0 again. most is the number of the wires that are in use at any time.
    """

    def __init__(self, width, look, used):
        self.width = width
        self.look = look
        self.used = used
        self.most = used
        self.gates = []

    def fresh(self, many):
        """So many wires that are 0."""
        wires = tuple(range(self.used, self.used + many))
        self.used += many
        self.most = max(self.most, self.used)
        return wires

    def copied(self, bits):
        """Wires that have the values of bits."""
        wires = self.fresh(len(bits))
        for wire, bit in zip(wires, bits):
            self.gates.extend(gates_if(wire, [bit]))
        return wires

    def total(self, terms):
        """A bit that is 1 if an odd number of the terms is; a term is 1 if all its bits are."""
        found = {}
        is_odd = False
        for controls in [controls_of(term) for term in terms]:
            if controls is not None and len(controls) == 1 and controls[0][1] == 0:
                is_odd = not is_odd
                controls = ((controls[0][0], 1),)
            if controls == ():
                is_odd = not is_odd
            elif controls in found:
                del found[controls]
            elif controls is not None:
                found[controls] = True
        if not found:
            return is_odd
        rows = list(found)
        if len(rows) == 1 and len(rows[0]) == 1:
            bit = rows[0][0]
        else:
            bit = (self.fresh(1)[0], 1)
            self.gates.extend([(bit[0], controls) for controls in rows])
        return opposite(bit) if is_odd else bit

    def value(self, e):
        """The bits of an expression, the lowest one first."""
        word = e[0]
        if word == "int":
            return number_bits(e[1], self.width)
        if word == "var":
            return wire_bits(self.look[e[1]][0])
        inner = [self.value(part) for part in parts(e)]
        if word == "cell":
            return self.cell_value(self.look[e[1]], inner[0])
        if word == "not":
            return truth(self.total([opposites(inner[0])]), self.width)
        action = ACTIONS[word]
        return action(self, inner[0], inner[1])

    def cell_value(self, words, index):
        """The bits of the word that an index means among those of an array."""
        if is_fixed(words, index):
            return wire_bits(self.choices(words, index)[0].wires)
        out = self.fresh(self.width)
        for choice in self.choices(words, index):
            copying = []
            for wire, other in zip(out, choice.wires):
                copying.extend(gates_if(wire, [choice.bit, (other, 1)]))
            self.gates.extend(around(choice.setup, copying))
        return wire_bits(out)

    def index_of(self, place):
        """The bits of the index of a place, none for that of a variable."""
        return self.value(place[2]) if place[0] == "cell" else []

    def choices(self, words, index):
        """The choices for all words that an index may mean among those of an array.

        One choice is made and undone at a time, so that all setups use the same wires.
        """
        if is_fixed(words, index):
            return [Choice([], True, words[as_number([bit is True for bit in index]) % len(words)])]
        found = []
        for at, wires in enumerate(words):
            row = [number % len(words) == at for number in range(1 << len(index))]
            inner = Wiring(self.width, self.look, self.used)
            bit = inner.total(terms_where(index, row))
            if bit is not False:
                found.append(Choice(inner.gates, bit, wires))
                self.most = max(self.most, inner.most)
        return found
