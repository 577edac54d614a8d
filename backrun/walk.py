"""A run under way, one step after the other."""

from backrun.frame import Frame
from backrun.programs import bodies


class Due:
    """A statement that is to be begun, or is under way, with the path and the frame where it stands."""

    def __init__(self, statement, path, frame):
        self.statement = statement
        self.path = path
        self.frame = frame
        self.is_turn = False


class Block:
    """A body under way; owner is what it is done for, branch which body of its owner it is."""

    def __init__(self, body, prefix, frame, owner, branch):
        self.body = body
        self.prefix = prefix
        self.frame = frame
        self.owner = owner
        self.branch = branch
        self.done = 0

    def has_next(self):
        """Whether a statement of the body is still to be done."""
        return self.done < len(self.body)

    def next_due(self):
        """The next statement of the body, in the direction of the frame."""
        at = len(self.body) - 1 - self.done if self.frame.backward else self.done
        self.done += 1
        return Due(self.body[at], self.prefix + (at,), self.frame)


class Walk:
    """A run: due is what takes the next step, or None at the end; result is None before the end.

    The bodies under way stand on a stack of their own, since calls may nest deeper than Python's.
    """

    def __init__(self, program, store, backward):
        width, self.declared, procedures = program
        self.procedures = {name: (at, params, body) for at, (name, params, body) in enumerate(procedures)}
        self.main = Frame(width, look_of(store), backward)
        at, _, body = self.procedures["main"]
        self.blocks = [Block(body, (at,), self.main, None, 0)]
        self.due = None
        self.result = None
        self.settle()

    def step(self):
        """Take the step that is due, and go on to the next one."""
        due = self.due
        self.due = None
        if due.is_turn:
            self.enter(due, 0)
        else:
            self.begin(due)
        self.settle()

    def store(self):
        """The store of the globals as they stand now."""
        for block in reversed(self.blocks):
            block.frame.give_back()
        return store_of(self.declared, self.main.look)

    def end(self):
        """The end of a run that stops here."""
        return ("none",) if self.result is None else self.result

    def settle(self):
        """Do all that takes no step, up to the next step or the end."""
        while self.due is None and self.result is None:
            block = self.blocks[-1]
            if block.has_next():
                self.due = block.next_due()
            else:
                self.blocks.pop()
                self.leave(block)

    def begin(self, due):
        """Begin a statement; a simple one is done by that."""
        statement, frame = due.statement, due.frame
        word = statement[0]
        if word in ("plus", "minus", "xor"):
            frame.change(statement)
        elif word == "swap":
            frame.exchange(statement)
        elif word == "if":
            self.enter(due, 0 if frame.early_test(statement) != 0 else 1)
        elif word == "loop":
            self.begin_loop(due)
        elif word == "local":
            frame.open_local(statement)
            self.enter(due, 0)
        elif word != "skip":
            self.begin_call(due)

    def begin_loop(self, due):
        """Begin a loop: its first test must hold."""
        if due.frame.early_test(due.statement) == 0:
            self.fail("entry", due)
        else:
            self.enter(due, 0)

    def begin_call(self, due):
        """Begin a call or uncall."""
        word, name, names = due.statement
        backward = due.frame.backward if word == "call" else not due.frame.backward
        at, params, body = self.procedures[name]
        frame = due.frame.callee(params, names, backward)
        self.blocks.append(Block(body, (at,), frame, due, 0))

    def enter(self, due, branch):
        """Begin with a body of a statement."""
        body = bodies(due.statement)[branch]
        self.blocks.append(Block(body, due.path + (branch,), due.frame, due, branch))

    def leave(self, block):
        """Go on behind a body that is done."""
        due = block.owner
        if due is None:
            self.result = ("done",)
        elif due.statement[0] == "if":
            if (due.frame.late_test(due.statement) != 0) != (block.branch == 0):
                self.fail("exit", due)
        elif due.statement[0] == "loop":
            self.leave_loop_body(due, block.branch)
        elif due.statement[0] == "local":
            if not due.frame.close_local(due.statement):
                self.fail("local", due)
        else:
            block.frame.give_back()

    def leave_loop_body(self, due, branch):
        """Go on behind the first or the second body of a loop."""
        if branch == 0:
            if due.frame.late_test(due.statement) == 0:
                self.enter(due, 1)
        elif due.frame.early_test(due.statement) != 0:
            self.fail("entry", due)
        else:
            due.is_turn = True
            self.due = due

    def fail(self, word, due):
        """End the run at a test that fails."""
        self.result = ("fail", word, due.path)


def look_of(store):
    """The dict from the names of a store to their words or lists of words."""
    return {name: list(value) if isinstance(value, tuple) else value for name, value in store}


def store_of(declared, look):
    """The store of the declared names with the values that look has for them."""
    return tuple([(name, tuple(look[name]) if size else look[name]) for name, size in declared])
