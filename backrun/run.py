"""Runs of programs, forward and backward."""

from backrun.forms import is_word
from backrun.walk import Walk


def empty_store(program):
    """The store with 0 everywhere."""
    return tuple([(name, (0,) * size if size else 0) for name, size in program[1]])


def is_store(program, value):
    """Whether a value of any kind is a store of the program."""
    width, declared, _ = program
    if not isinstance(value, tuple) or len(value) != len(declared):
        return False
    return all([is_entry(width, name, size, item) for (name, size), item in zip(declared, value)])


def is_entry(width, name, size, item):
    """Whether a value of any kind is a pair of the name and a value of its size."""
    if not isinstance(item, tuple) or len(item) != 2 or item[0] != name:
        return False
    value = item[1]
    if size == 0:
        return is_word(value, width)
    if not isinstance(value, tuple) or len(value) != size:
        return False
    return all(is_word(word, width) for word in value)


def run(program, store, *, fuel, backward=False):
    """The triple (store, end, steps) of the run from a store."""
    walk = Walk(program, store, backward)
    steps = 0
    while steps < fuel and walk.due is not None:
        walk.step()
        steps += 1
    return walk.store(), walk.end(), steps


def trace(program, store, *, fuel, backward=False):
    """The paths of the statements that take the steps of the run, in order."""
    walk = Walk(program, store, backward)
    left = fuel
    while left > 0 and walk.due is not None:
        yield walk.due.path
        walk.step()
        left -= 1


def reached(program, stores, *, fuel):
    """The ascending tuple of the paths at which the runs from the stores take steps."""
    found = {}
    for store in stores:
        for path in trace(program, store, fuel=fuel):
            found[path] = True
    return tuple(sorted(found))
