"""Ways to find steps that make a circuit smaller."""

from backrun.steps import can_exchange, merged_gate


def cancelling(circuit):
    """The tuple of steps that bring equal gates together and cancel them."""
    _, steps = cancelled_all(circuit)
    return steps


def merging(circuit):
    """The tuple of steps that bring gates together that merge takes, and merge them."""
    _, steps = merged_all(circuit)
    return steps


def shrink(circuit):
    """The pair (circuit, steps) behind cancelling and merging in turn, until neither finds a step."""
    steps = ()
    while True:
        circuit, cancels = cancelled_all(circuit)
        circuit, merges = merged_all(circuit)
        steps += cancels + merges
        if not cancels and not merges:
            return circuit, steps


def cancelled_all(circuit):
    """The circuit behind all cancels, and the steps to it."""
    return Search(circuit, "cancel").outcome()


def merged_all(circuit):
    """The circuit behind all merges, and the steps to it."""
    return Search(circuit, "merge").outcome()


class Search:
    """The search for two gates that a cancel or a merge takes, when the later one is brought behind the earlier one.

    For each gate, floors has the nearest gate ahead of it that it cannot be exchanged with, and partners the least
    gate from there on that it fits, -1 if there is none.
    """

    def __init__(self, circuit, word):
        self.wires, gates = circuit
        self.word = word
        self.gates = list(gates)
        self.floors = [-1] * len(gates)
        self.partners = [-1] * len(gates)
        self.steps = []

    def outcome(self):
        """The circuit behind all steps, and the steps."""
        for at in range(len(self.gates)):
            self.look_from(at)
        pair = self.first_pair()
        while pair is not None:
            self.unite(pair[0], pair[1])
            pair = self.first_pair()
        return (self.wires, tuple(self.gates)), tuple(self.steps)

    def fits(self, first, second):
        """Whether the step takes two gates."""
        if self.word == "cancel":
            return first == second
        return merged_gate(first, second) is not None

    def look_from(self, at):
        """Find the floor and the partner of a gate."""
        gate = self.gates[at]
        self.partners[at] = -1
        floor = at - 1
        while floor >= 0:
            other = self.gates[floor]
            if self.fits(other, gate):
                self.partners[at] = floor
            if not can_exchange(other, gate):
                break
            floor -= 1
        self.floors[at] = floor

    def first_pair(self):
        """The pair with the least earlier gate, and for it the least later one; None if there is none."""
        found = [(partner, at) for at, partner in enumerate(self.partners) if partner >= 0]
        return min(found, default=None)

    def unite(self, early, late):
        """Bring a gate behind an earlier one, and do the step with the two."""
        for at in range(late - 1, early, -1):
            self.steps.append(("exchange", at))
        self.steps.append((self.word, early))
        joined = merged_gate(self.gates[early], self.gates[late])
        # What has its floor behind both of them has its partner there, too.
        near = [at for at in range(early, len(self.gates)) if self.floors[at] <= late and at != late]
        stale = [at for at in near if self.is_stale(at, early, late, joined)]
        self.take_out(late)
        stale = moved_up(stale, late)
        if joined is None:
            self.take_out(early)
            stale = moved_up(stale, early)
        else:
            self.gates[early] = joined
        for at in stale:
            self.look_from(at)

    def take_out(self, gone):
        """Take a gate out."""
        del self.gates[gone]
        del self.floors[gone]
        del self.partners[gone]
        self.floors = moved_up(self.floors, gone)
        self.partners = moved_up(self.partners, gone)

    def is_stale(self, at, early, late, joined):
        """Whether what was found for a gate changes when two gates go, or are joined in the place of the early one."""
        if self.floors[at] in (early, late) or self.partners[at] in (early, late):
            return True
        if joined is None or self.floors[at] > early:
            return False
        # A gate that both of them let pass is let pass by the one that they become, too.
        return at == early or self.fits(joined, self.gates[at])


def moved_up(numbers, gone):
    """The numbers of gates when one has been taken out."""
    return [at - 1 if at > gone else at for at in numbers]
