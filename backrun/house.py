"""A run that can be led forward and back."""

from backrun.errors import StepError
from backrun.run import is_entry, trace
from backrun.walk import Walk


class House:
    """A run of a program from a first store, and a place in it: the number of steps taken.

    To go back, the run is led forward anew from the first store.
    """

    def __init__(self, program, store):
        self.program = program
        self.first_store = store
        self.begin_anew()

    def begin_anew(self):
        """Go to the place 0."""
        self.place = 0
        self.walk = Walk(self.program, self.first_store, False)

    def forward(self, count):
        """Move forward by so many steps, but not beyond the end, and return how many it were."""
        moved = 0
        while moved < count and self.walk.due is not None:
            self.walk.step()
            moved += 1
        self.place += moved
        return moved

    def back(self, count):
        """Move back by so many steps, but not below 0, and return how many it were."""
        moved = max(min(count, self.place), 0)
        if moved > 0:
            wanted = self.place - moved
            self.begin_anew()
            self.forward(wanted)
        return moved

    def where(self):
        """The place."""
        return self.place

    def store(self):
        """The store as it stands here."""
        return self.walk.store()

    def ending(self):
        """The run's end here, ("none",) within the run."""
        return self.walk.end()

    def next_path(self):
        """The path of the statement that takes the next step, or None at the end."""
        return None if self.walk.due is None else self.walk.due.path

    def until(self, path, *, limit=10000):
        """Move forward to the next place ahead of a step at the path, at most so many steps; whether it got there."""
        for _ in range(limit):
            if self.forward(1) == 0:
                return False
            if self.next_path() == path:
                return True
        return False

    def before(self, path, *, limit=10000):
        """Move back to the next place ahead of a step at the path, at most so many steps; whether it got there."""
        farthest = max(self.place - limit, 0)
        nearest = None
        for at, taken in enumerate(trace(self.program, self.first_store, fuel=self.place)):
            if at >= farthest and taken == path:
                nearest = at
        self.back(self.place - (farthest if nearest is None else nearest))
        return nearest is not None

    def poke(self, name, value):
        """Set a global of the first store, and go to the place 0."""
        width, declared, _ = self.program
        for at, (known, size) in enumerate(declared):
            if known == name:
                if not is_entry(width, known, size, (known, value)):
                    raise StepError("a global cannot have this value")
                self.first_store = self.first_store[:at] + ((known, value),) + self.first_store[at + 1:]
                self.begin_anew()
                return
        raise StepError("there is no such global")
