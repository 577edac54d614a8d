"""Circuits for programs without loops and without calls that lead back."""

from backrun.bits import adding_gates, gates_if
from backrun.errors import NoCircuit
from backrun.inverse import inverse_body
from backrun.programs import statements_below
from backrun.tables import as_bits, as_number
from backrun.weave import GO, Seen, Weaver, placed_gates

MOST_WIDTH = 8


def can_synthesize(program):
    """Whether there is a circuit for a program."""
    bodies = {name: body for name, _, body in program[2]}
    order = call_order(bodies)
    if program[0] > MOST_WIDTH or order is None:
        return False
    return not any([has_loop(bodies[name]) for name in order])


def synthesize(program):
    """The layout (circuit, inputs, bad) of a program."""
    if not can_synthesize(program):
        raise NoCircuit("the program is too wide, has a loop, or a call that leads back")
    return Synthesis(program).layout()


def store_bits(program, layout, store):
    """The tuple of all bits: the store's words on their wires, 0 elsewhere."""
    circuit, inputs, _ = layout
    bits = [0] * circuit[0]
    for places, word in zip(inputs, store_words(store)):
        for wire, bit in zip(places, as_bits(word, len(places))):
            bits[wire] = bit
    return tuple(bits)


def bits_store(program, layout, bits):
    """The store that is on the wires for its words."""
    words = tuple([as_number([bits[wire] for wire in wires]) for wires in layout[1]])
    store = []
    for name, size in program[1]:
        store.append((name, words[:size] if size else words[0]))
        words = words[max(size, 1):]
    return tuple(store)


def store_words(store):
    """The words of a store, in order."""
    words = []
    for _, value in store:
        words.extend(list(value) if isinstance(value, tuple) else [value])
    return words


def has_loop(body):
    """Whether a loop stands in a body or within its statements."""
    return any([statement[0] == "loop" for statement in inner_statements(body)])


def inner_statements(body):
    """The statements of a body and those within them."""
    return [statement for _, statement in statements_below(body, ())]


def calls_in(body):
    """The pairs (name, whether it is an uncall) of all calls and uncalls in a body."""
    found = [statement for statement in inner_statements(body) if statement[0] in ("call", "uncall")]
    return [(statement[1], statement[0] == "uncall") for statement in found]


def call_order(bodies):
    """The names of the procedures that main reaches, each behind those that it calls; None if a call leads back."""
    callees = {name: called_names(body) for name, body in bodies.items()}
    waiting = ["main"]
    found = {"main": True}
    while waiting:
        caller = waiting.pop()
        for called in callees[caller]:
            if called not in found:
                found[called] = True
                waiting.append(called)
    order = []
    while len(order) < len(found):
        ready = [name for name in found if name not in order and all([other in order for other in callees[name]])]
        if not ready:
            return None
        order.extend(ready)
    return order


def called_names(body):
    """The names of the procedures that a body calls or uncalls."""
    return [name for name, _ in calls_in(body)]


def words_on(declared, width, first):
    """The words of declared names that stand one after the other, the first one from a wire on."""
    look = {}
    for name, size in declared:
        starts = [first + at * width for at in range(max(size, 1))]
        look[name] = tuple([tuple(range(start, start + width)) for start in starts])
        first += width * len(starts)
    return look


def tests_in(body, tests):
    """How many tests may fail in a body; tests has the numbers of the procedures that it calls."""
    own = [statement for statement in inner_statements(body) if statement[0] in ("if", "local")]
    return len(own) + sum([tests[name] for name in called_names(body)])


class Synthesis:
    """The making of a layout."""

    def __init__(self, program):
        self.width, self.declared, procedures = program
        self.params = {name: params for name, params, _ in procedures}
        self.bodies = {name: body for name, _, body in procedures}
        self.order = call_order(self.bodies)
        self.tests = {}
        for name in self.order:
            self.tests[name] = tests_in(self.bodies[name], self.tests)
        # By the name of a procedure and whether it is done backward: its gates and the number of its own wires.
        self.templates = {}

    def body_of(self, name, backward):
        """The body of a procedure as it is done forward or backward."""
        return inverse_body(self.bodies[name]) if backward else self.bodies[name]

    def needed(self):
        """The names of the procedures in which direction they are done, each behind those that it calls."""
        found = {("main", False): True}
        rows = []
        for name in reversed(self.order):
            for backward in (False, True):
                if (name, backward) in found:
                    rows.append((name, backward))
                    for called in calls_in(self.body_of(name, backward)):
                        found[called] = True
        return rows[::-1]

    def layout(self):
        """The circuit, the wires of the store's words, and the wire that tells whether the run fails."""
        for name, backward in self.needed():
            self.templates[(name, backward)] = self.template(name, backward)
        gates, own = self.templates[("main", False)]
        look = words_on(self.declared, self.width, 0)
        inputs = tuple([wires for words in look.values() for wires in words])
        behind = len(inputs) * self.width
        counted = self.counter_size()
        if counted > 1:
            bad = behind + counted + own
            counter = list(range(behind, behind + counted))
        else:
            # One test needs no number: it turns the last wire itself.
            bad = behind + own
            counter = [bad] * counted
        first_own = bad - own
        places = list(range(behind)) + counter + list(range(first_own, bad))
        placed = placed_gates(gates, places, [])
        if counted > 1:
            placed.extend(gates_if(bad, [(wire, 0) for wire in counter]) + gates_if(bad, []))
        return ((bad + 1, tuple(placed)), inputs, bad)

    def counter_size(self):
        """How many wires the number of the tests that fail needs."""
        return self.tests["main"].bit_length()

    def template(self, name, backward):
        """The gates of a procedure, with the wires of its params, the counter and its own in this order."""
        declared = self.declared if name == "main" else self.params[name]
        look = words_on(declared, self.width, 0)
        behind = self.width * sum([len(words) for words in look.values()])
        first_own = behind + self.counter_size()
        counter = tuple(range(behind, first_own))
        weaver = Weaver(self.width, counter, self.templates)
        weaver.reserve(first_own)
        gates = weaver.body_gates(self.body_of(name, backward), Seen(look, first_own), [GO])
        return gates, weaver.extent - first_own
