"""The names of a procedure that is under way, and the statements that change their values."""

from backrun.values import cell_index, value_of
from backrun.words import compute

FORWARD_OPS = {"plus": "add", "minus": "sub", "xor": "xor"}
BACKWARD_OPS = {"plus": "sub", "minus": "add", "xor": "xor"}


class Frame:
    """The values that a procedure's names stand for, and the direction in which its body is done."""

    def __init__(self, width, look, backward):
        self.width = width
        self.look = look
        self.backward = backward
        self.caller = None
        self.passed = []

    def callee(self, params, names, backward):
        """The frame of a procedure that is called with these names of this frame."""
        passed = [(param, name) for (param, _), name in zip(params, names)]
        frame = Frame(self.width, {param: self.look[name] for param, name in passed}, backward)
        frame.caller = self
        frame.passed = passed
        return frame

    def give_back(self):
        """Give the frame that called this one the values of what it passed."""
        # An array is one list for both frames, but a variable has its word in each of them.
        for param, name in self.passed:
            self.caller.look[name] = self.look[param]

    def value(self, expression):
        """The word of an expression."""
        return value_of(self.width, expression, self.look)

    def put(self, place, word):
        """Give a place another word."""
        if place[0] == "var":
            self.look[place[1]] = word
        else:
            self.look[place[1]][cell_index(self.width, place, self.look)] = word

    def change(self, statement):
        """Do a plus, minus or xor in the frame's direction."""
        word, place, expression = statement
        op = BACKWARD_OPS[word] if self.backward else FORWARD_OPS[word]
        self.put(place, compute(op, self.width, self.value(place), self.value(expression)))

    def exchange(self, statement):
        """Do a swap."""
        _, first, second = statement
        word = self.value(first)
        self.put(first, self.value(second))
        self.put(second, word)

    def early_test(self, statement):
        """The word of the first expression of an if, a loop or a local, in the frame's direction."""
        return self.value(test_of(statement, not self.backward))

    def late_test(self, statement):
        """The word of the last expression of an if, a loop or a local, in the frame's direction."""
        return self.value(test_of(statement, self.backward))

    def open_local(self, statement):
        """Begin with the variable of a local."""
        self.look[statement[1]] = self.early_test(statement)

    def close_local(self, statement):
        """End the variable of a local; whether it had the value that it must have."""
        is_right = self.look[statement[1]] == self.late_test(statement)
        del self.look[statement[1]]
        return is_right


def test_of(statement, is_first):
    """The expression ahead of the bodies of an if, a loop or a local, or that behind them."""
    if not is_first:
        return statement[4]
    return statement[2] if statement[0] == "local" else statement[1]
