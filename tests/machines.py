"""Runs of compiled programs beside the runs of the programs themselves."""

import copy

from backrun.inverse import inverse
from backrun.lower import compile_program
from backrun.machine import machine_faults, run_back, run_machine
from backrun.run import run

ZEROS = (0,) * 16


def words_of(value):
    return value if isinstance(value, tuple) else (value,)


def laid(build, store, cells):
    """The state with a store's words at their places."""
    memory = [0] * cells
    for place, (_, value) in zip(build[1], store):
        for at, word in enumerate(words_of(value)):
            memory[place + at] = word
    return (ZEROS, 0, 0, 1, tuple(memory))


def size_of_globals(program):
    return sum(max(size, 1) for _, size in program[1])


def build_of(test, program, cells):
    """The build, when it has been looked at."""
    before = copy.deepcopy(program)
    build = compile_program(program, cells=cells)
    test.assertEqual(program, before)
    machine, places, fails = build
    test.assertEqual([type(part) for part in (build, machine, machine[1], places, fails)], [tuple] * 5)
    test.assertEqual(machine_faults(machine), [])
    test.assertEqual(machine[0], program[0])
    # each global has cells of its own
    taken = [place + at for place, (_, size) in zip(places, program[1]) for at in range(max(size, 1))]
    test.assertEqual((len(places), len(set(taken))), (len(program[1]), len(taken)))
    test.assertTrue(all(0 <= at for at in taken))
    test.assertEqual(len(set(fails)), len(fails))
    for word, path in fails:
        test.assertIn(word, ("exit", "entry", "local", "frame"))
        test.assertIsInstance(path, tuple)
    numbers = {part[1] for part in machine[1] if part[0] == "fail"}
    test.assertTrue(all(k < len(fails) for k in numbers))
    return build


def ends_like_the_run(test, program, build, store, cells, fuel=300, has_room=False):
    """The end of the run, when the machine's run from the store has been found to agree with it.

    If the machine lacks room for a frame, the pair of the word "frame" and the path is returned.
    """
    last, end, _ = run(program, store, fuel=fuel)
    first = laid(build, store, cells)
    state, stop, steps = run_machine(build[0], first, fuel=20 * fuel if end == ("none",) else 10 ** 6)
    if stop[0] == "fail" and build[2][stop[1]][0] == "frame":
        # only calls that go on and on use up a large memory
        test.assertTrue(end == ("none",) or not has_room)
        return build[2][stop[1]]
    if end == ("done",):
        test.assertEqual(stop, ("halt",))
        registers, _, br, direction, memory = state
        test.assertEqual((registers, br, direction, memory), (ZEROS, 0, 1, laid(build, last, cells)[4]))
        test.assertEqual(run_back(build[0], state, steps), first)
    elif end == ("none",):
        test.assertEqual(stop, ("none",))
    else:
        test.assertEqual(stop[0], "fail")
        test.assertEqual(build[2][stop[1]], end[1:])
    return end


def agrees(test, program, stores, cells=200, fuel=300):
    """The ends of the runs of a program and of its inverse from each store, in a memory with room for the frames."""
    ends = []
    for made in (program, inverse(program)):
        build = build_of(test, made, cells)
        ends.append([ends_like_the_run(test, made, build, store, cells, fuel, True) for store in stores])
    return ends
