"""The gates of the bodies of procedures."""

from backrun.bits import adding_gates, around, gates_if, opposite, opposites, undone, wire_bits
from backrun.wiring import Choice, Wiring, is_fixed

# Stands in the gates of a procedure for the controls under which it is called.
GO = (-1, 1)


class Seen:
    """The words of the names that are seen, a word being a tuple of wires, and the number of the wires in use."""

    def __init__(self, look, used):
        self.look = look
        self.used = used

    def behind(self, many):
        """The same names, with so many more wires in use."""
        return Seen(self.look, self.used + many)

    def within(self, name, wires):
        """The names that are seen in the body of a local that stands on these wires."""
        look = dict(self.look)
        look[name] = (wires,)
        return Seen(look, self.used)


class Weaver:
    """Makes the gates of one procedure; extent is the number of the wires that it ever needs.

    Each statement is done if its controls hold, a list of bits. What is worked out for it and undone again does not
    need them. Each test that fails adds one to the number on the counter wires, which are so many that it never gets
    back to 0: whatever is done behind a test that failed, the number tells that one did.
    """

    def __init__(self, width, counter, templates):
        self.width = width
        self.counter = counter
        self.templates = templates
        self.extent = 0

    def body_gates(self, body, seen, controls):
        """The gates of a body."""
        gates = []
        for statement in body:
            gates.extend(self.statement_gates(statement, seen, controls))
        return gates

    def statement_gates(self, statement, seen, controls):
        """The gates of a statement."""
        word = statement[0]
        if word in ("plus", "minus", "xor"):
            return self.change_gates(statement, seen, controls)
        if word == "swap":
            return self.swap_gates(statement, seen, controls)
        if word == "if":
            return self.if_gates(statement, seen, controls)
        if word == "local":
            return self.local_gates(statement, seen, controls)
        if word == "skip":
            return []
        return self.call_gates(statement, seen, controls)

    def wiring(self, seen):
        """A wiring of the names that are seen."""
        return Wiring(self.width, seen.look, seen.used)

    def reserve(self, most):
        """Note how many wires are in use at some time."""
        self.extent = max(self.extent, most)

    def change_gates(self, statement, seen, controls):
        """The gates of a plus, minus or xor."""
        word, place, expression = statement
        wiring = self.wiring(seen)
        value = wiring.value(expression)
        index = wiring.index_of(place)
        gates = []
        for choice in wiring.choices(seen.look[place[1]], index):
            changing = word_gates(word, choice.wires, value, controls + [choice.bit])
            gates.extend(around(choice.setup, changing))
        self.reserve(wiring.most)
        return around(wiring.gates, gates)

    def swap_gates(self, statement, seen, controls):
        """The gates of a swap."""
        _, first, second = statement
        wiring = self.wiring(seen)
        ones, others = seen.look[first[1]], seen.look[second[1]]
        one_index, other_index = wiring.index_of(first), wiring.index_of(second)
        if is_fixed(ones, one_index) or is_fixed(others, other_index):
            gates = []
            for choice in wiring.choices(ones, one_index):
                gates.extend(meeting_gates(choice, wiring.choices(others, other_index), controls))
        else:
            # One word is taken out meanwhile, so that not each word of one array meets each one of the other.
            held = Choice([], True, wiring.fresh(self.width))
            taking = meeting_gates(held, wiring.choices(ones, one_index), [])
            gates = around(taking, meeting_gates(held, wiring.choices(others, other_index), controls))
        self.reserve(wiring.most)
        return around(wiring.gates, gates)

    def test_gates(self, e, seen, target, controls):
        """The gates that turn the target if an expression is not 0 and the controls hold."""
        wiring = self.wiring(seen)
        bits = [bit for bit in wiring.value(e) if bit is not False]
        if len(bits) == 1:
            turning = gates_if(target, controls + bits)
        else:
            turning = gates_if(target, controls) + gates_if(target, controls + opposites(bits))
        self.reserve(wiring.most)
        return around(wiring.gates, turning)

    def failing_gates(self, bit):
        """The gates that note that a test fails if a bit is 1."""
        return adding_gates(self.counter, [[bit]])

    def if_gates(self, statement, seen, controls):
        """The gates of an if. Its wire is 1 if the controls hold and the first body is done; at the end it is 0."""
        _, early, first, second, late = statement
        wire = seen.used
        inner = seen.behind(1)
        self.reserve(inner.used)
        return (
            self.test_gates(early, inner, wire, controls)
            + self.body_gates(first, inner, [(wire, 1)])
            + self.body_gates(second, inner, controls + [(wire, 0)])
            + self.test_gates(late, inner, wire, controls)
            + self.failing_gates((wire, 1))
        )

    def local_gates(self, statement, seen, controls):
        """The gates of a local. Its wires are 0 at the end, or anywhere where the controls do not hold."""
        _, name, early, body, late = statement
        wires = tuple(range(seen.used, seen.used + self.width))
        outer = seen.behind(self.width)
        test = self.wiring(outer)
        is_zero = test.total([opposites(wire_bits(wires))])
        self.reserve(test.most)
        place = ("var", name)
        inner = outer.within(name, wires)
        return (
            self.change_gates(("xor", place, early), inner, controls)
            + self.body_gates(body, inner, controls)
            + self.change_gates(("xor", place, late), inner, controls)
            + around(test.gates, self.failing_gates(opposite(is_zero)))
        )

    def call_gates(self, statement, seen, controls):
        """The gates of a call or uncall."""
        word, name, names = statement
        template, needed = self.templates[(name, word == "uncall")]
        places = [wire for passed in names for wires in seen.look[passed] for wire in wires]
        places.extend(list(self.counter))
        places.extend(list(range(seen.used, seen.used + needed)))
        self.reserve(seen.used + needed)
        return placed_gates(template, places, controls)


def word_gates(word, target, value, controls):
    """The gates that change the number on the target wires by a value as a plus, minus or xor does."""
    if word == "xor":
        return [gate for wire, bit in zip(target, value) for gate in gates_if(wire, controls + [bit])]
    gates = adding_gates(target, [controls + [bit] for bit in value])
    return gates if word == "plus" else undone(gates)


def meeting_gates(one, others, controls):
    """The gates that exchange the word of one choice with those of others, if their bits are 1."""
    gates = []
    for other in others:
        bits = controls + [one.bit, other.bit]
        exchanging = exchange_gates(one.wires, other.wires, bits)
        gates.extend(around(one.setup + other.setup, exchanging))
    return gates


def exchange_gates(first, second, controls):
    """The gates that exchange two words if the controls hold."""
    gates = []
    for one, other in zip(first, second):
        # Undone, the outer gates change nothing: only the one between them needs the controls.
        middle = gates_if(other, controls + [(one, 1)])
        gates.extend(around(gates_if(one, [(other, 1)]), middle))
    return gates


def placed_gates(gates, places, controls):
    """The gates of a procedure on the wires of a call, with the call's controls."""
    found = []
    for target, looked_at in gates:
        bits = []
        for control in looked_at:
            if control == GO:
                bits.extend(controls)
            else:
                bits.append((places[control[0]], control[1]))
        found.extend(gates_if(places[target], bits))
    return found
