"""Stores of a program in the memory of its compiled code."""


def lay(program, build, store, cells):
    """The first state for a store, in a memory of so many cells."""
    needed = max([cells] + [address + 1 for address in global_addresses(program, build)])
    memory = [0] * needed
    for place, (_, value) in zip(build[1], store):
        words = list(value) if isinstance(value, tuple) else [value]
        memory[place:place + len(words)] = words
    # In a memory that is too small for the globals the run fails at once, so nobody misses those that are cut off.
    return ((0,) * 16, 0, 0, 1, tuple(memory[:cells]))


def read_store(program, build, state):
    """The store that a state has."""
    memory = state[4]
    found = []
    for place, (name, size) in zip(build[1], program[1]):
        found.append((name, memory[place:place + size] if size else memory[place]))
    return tuple(found)


def is_clean(program, build, state):
    """Whether a state has 0 in all registers, in br and in all cells but those of the globals, and direction 1."""
    registers, _, br, direction, memory = state
    if direction != 1 or br != 0 or any(registers):
        return False
    own = {address: True for address in global_addresses(program, build)}
    return all([word == 0 or address in own for address, word in enumerate(memory)])


def global_addresses(program, build):
    """The addresses of all cells of the globals."""
    found = []
    for place, (_, size) in zip(build[1], program[1]):
        found.extend(list(range(place, place + max(size, 1))))
    return found
