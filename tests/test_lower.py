import inspect
import itertools
import unittest

from backrun.faults import faults
from backrun.inverse import inverse
from backrun.lower import compile_program
from backrun.machine import run_machine
from backrun.run import run
from backrun.words import OPS, compute
from tests.machines import agrees, build_of, ends_like_the_run, laid, size_of_globals
from tests.samples import (
    COUNTING, FIBONACCI, SKIP, TURNING, Maker, cell, countdown, minus, nested_ifs, num, plus, program, var, xor,
)

DONE = ("done",)
NONE = ("none",)
SAMPLES = (0, 1, 2, 3, 5, 7, 127, 128, 200, 254, 255)


def store(a=0, b=0, r=(0, 0, 0, 0)):
    return (("a", a), ("b", b), ("r", r))


STORES = [store(a, b, (3, 7, 0, 255)) for a in (0, 1, 2, 5, 255) for b in (0, 1, 4, 200)]


class LowerTest(unittest.TestCase):
    def fine(self, body, stores=None, **more):
        """The ends of a body's runs, forward and by the inverse, found to be those of the machine."""
        made = program(body, **more)
        self.assertEqual(faults(made), [])
        return agrees(self, made, STORES if stores is None else stores)

    def all_done(self, body, stores=None, **more):
        ends = self.fine(body, stores, **more)
        self.assertEqual({end for found in ends for end in found}, {DONE})


class Builds(unittest.TestCase):
    def test_arguments(self):
        self.assertEqual(str(inspect.signature(compile_program)), "(program, *, cells=4096)")
        self.assertEqual(compile_program(FIBONACCI), compile_program(FIBONACCI, cells=4096))

    def test_places(self):
        made = program((), declared=(("a", 0), ("r", 3), ("b", 0), ("s", 256), ("t", 1), ("c", 0)))
        places = build_of(self, made, 300)[1]
        self.assertEqual(len(places), 6)
        self.assertTrue(all(type(place) is int and 0 <= place < 300 for place in places))
        self.assertEqual(build_of(self, program((), declared=()), 4)[1], ())

    def test_no_more_than_64_globals(self):
        declared = tuple(("g%d" % k, 0) for k in range(64))
        made = program([plus("g63", var("g0"))], declared=declared)
        first = tuple((name, k + 1) for k, (name, _) in enumerate(declared))
        agrees(self, made, [first])

    def test_the_width_of_the_machine(self):
        for width in range(1, 33):
            build = build_of(self, program((plus("a", num(1)),), width=width), 50)
            self.assertEqual(build[0][0], width)

    def test_the_first_state_of_an_empty_program(self):
        for declared in ((), (("a", 0),), (("r", 256),)):
            made = program((), declared=declared)
            stores = [tuple((name, (7,) * size if size else 9) for name, size in declared)]
            self.assertEqual(agrees(self, made, stores, cells=300), [[DONE], [DONE]])


class Expressions(LowerTest):
    def test_each_op_at_each_width(self):
        for width in (1, 2, 8, 32):
            words = sorted({word % 2 ** width for word in SAMPLES} | {2 ** width - 1})
            stores = [store(x, y, (0, 1, 0, 0)) for x, y in itertools.product(words, repeat=2)]
            for op in OPS:
                body = (("plus", cell("r", num(0)), (op, var("a"), var("b"))),)
                made = program(body, width=width)
                self.assertEqual(set(agrees(self, made, stores)[0]), {DONE})
            first = stores[1]
            self.assertEqual(run(made, first, fuel=9)[0][2][1][0], compute("shr", width, first[0][1], first[1][1]))

    def test_numbers_and_variables_as_parts(self):
        a, b = var("a"), var("b")
        for op in OPS:
            for x, y in ((a, a), (a, num(3)), (num(3), a), (num(3), num(3)), (num(0), a), (a, num(0)), (num(0), num(0)),
                         (num(5), num(2)), (a, b), (b, a)):
                self.all_done((("xor", cell("r", num(1)), (op, x, y)),), STORES[:9])

    def test_not(self):
        self.all_done((plus("a", ("not", var("b"))), xor("b", ("not", ("not", var("a"))))))

    def test_cells(self):
        r = lambda e: cell("r", e)
        for e in (r(num(0)), r(num(3)), r(num(7)), r(var("b")), r(r(var("b"))), r(("add", var("b"), num(1))),
                  ("add", r(num(1)), r(num(1))), ("sub", r(num(1)), r(var("b"))), ("mul", r(var("b")), r(var("b"))),
                  ("xor", r(r(r(num(3)))), r(("not", r(var("b"))))), ("equal", r(num(5)), r(num(1)))):
            self.all_done((plus("a", e),))

    def test_cells_as_places(self):
        a, b = var("a"), var("b")
        for index in (num(0), num(6), a, b, ("add", a, b), ("not", a), ("mul", a, ("sub", b, num(1)))):
            for e in (num(9), a, b, ("add", a, b), ("not", b)):
                for word in ("plus", "minus", "xor"):
                    self.all_done(((word, cell("r", index), e),), STORES[3:12])

    def test_sizes_and_widths(self):
        # arrays that are longer than a word can tell, just as long, and shorter
        for width, sizes in ((1, (1, 2, 3)), (2, (1, 3, 4, 5)), (8, (1, 2, 255, 256)), (32, (1, 3, 256))):
            for size in sizes:
                words = sorted({0, 1 % 2 ** width, size % 2 ** width, (size + 1) % 2 ** width, 2 ** width - 1})
                made = program((("plus", cell("r", var("a")), num(1)), xor("b", cell("r", var("a")))),
                               declared=(("a", 0), ("b", 0), ("r", size)), width=width)
                stores = [(("a", word), ("b", 0), ("r", (0,) * size)) for word in words]
                self.assertEqual(set(agrees(self, made, stores, cells=300)[0]), {DONE})

    def test_deep_expressions(self):
        left = right = both = var("a")
        for k in range(19):
            left = (OPS[k % 10], left, num(k))
            right = (OPS[k % 3], num(k), right)
            both = ("add", both, var("b")) if k % 2 else ("not", both)
        for e in (left, right, both):
            self.all_done((plus("b", left) if e is left else xor("r0", e),), [
                s + (("r0", 0),) for s in STORES[:5]], declared=(("a", 0), ("b", 0), ("r", 4), ("r0", 0)))
        index = var("b")
        for _ in range(18):
            index = cell("r", index)
        self.all_done((plus("a", index),), [store(1, b, (3, 2, 0, 1)) for b in range(5)])

    def test_broad_expressions(self):
        # more parts than there are registers
        def tree(depth, k):
            if depth == 0:
                return (var("b"), num(k % 7), cell("r", num(k)))[k % 3]
            return (OPS[k % 10], tree(depth - 1, 2 * k), tree(depth - 1, 2 * k + 1))
        for depth in (4, 5, 6):
            self.all_done((plus("a", tree(depth, 1)), xor("a", tree(depth, 1))), STORES[:4])
            self.fine((("if", tree(depth, 1), (SKIP,), (), tree(depth, 2)),), STORES[:4])


class Statements(LowerTest):
    def test_changes_and_swaps(self):
        self.all_done((plus("a", var("b")), minus("b", num(3)), xor("a", var("b")), SKIP, ("swap", var("a"), var("b"))))
        self.all_done((("swap", var("a"), cell("r", var("b"))), ("swap", cell("r", num(2)), var("b"))))
        two = (("k", 0), ("r", 2), ("s", 3))
        stores = [(("k", k), ("r", (1, 2)), ("s", (3, 4, 5))) for k in range(7)]
        self.all_done((("swap", cell("r", var("k")), cell("s", ("add", var("k"), num(1)))),), stores, declared=two)
        self.all_done((("swap", cell("s", ("mul", var("k"), var("k"))), cell("r", ("not", var("k")))),), stores, declared=two)

    def test_ifs(self):
        a, b = var("a"), var("b")
        tests = (a, ("not", a), ("equal", a, num(2)), ("less", a, b), ("add", a, b), num(0), num(1), num(7),
                 ("equal", a, num(2)), cell("r", a), ("and", a, num(1)))
        for e in tests:
            self.all_done((("if", e, (xor("q", num(1)), SKIP), (xor("q", num(2)),), e),), [
                s + (("q", 5),) for s in STORES], declared=(("a", 0), ("b", 0), ("r", 4), ("q", 0)))
            ends = self.fine((plus("a", num(1)), ("if", e, (plus("b", num(1)),), (plus("a", num(2)),), e)))
            self.assertIn(DONE, ends[0])
        ends = self.fine((SKIP, ("if", a, (plus("b", num(1)),), (plus("b", num(2)),), b)))
        self.assertIn(("fail", "exit", (0, 1)), ends[0])
        self.assertIn(("fail", "exit", (0, 0)), ends[1])
        ends = self.fine((("if", num(1), (("if", a, (), (), b),), (("if", b, (), (), a),), num(1)),))
        self.assertIn(("fail", "exit", (0, 0, 0, 0)), ends[0])
        self.fine((("if", num(0), (), (("if", a, (), (), b),), num(0)),))

    def test_empty_bodies(self):
        for e, f in ((0, 0), (1, 1), (0, 1), (1, 0)):
            self.fine((("if", num(e), (), (), num(f)),))
            if f:
                self.fine((("loop", num(e), (), (), num(f)),))
            self.fine((("local", "t", num(e), (), num(f)),))

    def test_loops(self):
        a, b = var("a"), var("b")
        ends = self.fine((("loop", ("equal", a, num(0)), (plus("a", num(1)),), (plus("b", num(2)),),
                           ("equal", a, num(3))),))
        self.assertIn(DONE, ends[0])
        self.assertIn(("fail", "entry", (0, 0)), ends[0])
        ends = self.fine((("loop", ("not", a), (), (plus("a", num(1)),), ("equal", a, b)),))
        self.assertIn(DONE, ends[0])
        # a turn that must not begin again
        ends = self.fine((SKIP, ("loop", ("less", a, num(2)), (SKIP,), (plus("a", num(1)),), ("equal", a, num(9)))))
        self.assertIn(("fail", "entry", (0, 1)), ends[0])
        nested = ("loop", ("not", a), (
            ("loop", ("not", b), (plus("b", num(1)),), (SKIP,), ("equal", b, num(3))), minus("b", num(3)),
        ), (plus("a", num(1)),), ("equal", a, num(4)))
        self.assertIn(DONE, self.fine((nested,))[0])

    def test_loops_with_more_turns_than_there_is_time_for(self):
        a, b = var("a"), var("b")
        for body in ((("loop", ("equal", a, num(0)), (plus("a", num(1)),), (), num(0)),),
                     (SKIP, ("loop", ("not", a), (xor("b", num(1)), xor("b", num(1))), (plus("a", num(5)),), num(0))),
                     (("loop", num(1), (("loop", ("not", b), (), (minus("b", num(1)),), num(0)),), (), num(1)),)):
            made = program(body, width=32)
            build = build_of(self, made, 60)
            for first in (store(), store(0, 0, (1, 2, 3, 4))):
                self.assertEqual(ends_like_the_run(self, made, build, first, 60, 2000), NONE)
                self.assertEqual(run_machine(build[0], laid(build, first, 60), fuel=100000)[1:], (NONE, 100000))

    def test_loops_that_come_to_their_beginning(self):
        made = program((("loop", ("not", var("a")), (plus("a", num(1)), minus("b", num(1))), (SKIP,), num(0)),))
        self.assertEqual(run(made, store(), fuel=5000)[1], ("fail", "entry", (0, 0)))
        build = build_of(self, made, 60)
        self.assertEqual(ends_like_the_run(self, made, build, store(), 60, 5000), ("fail", "entry", (0, 0)))

    def test_locals(self):
        a, b, t = var("a"), var("b"), var("t")
        self.all_done((("local", "t", a, (plus("t", num(1)), plus("b", t)), ("add", a, num(1))),))
        self.all_done((("local", "t", num(3), (), num(3)), ("local", "t", ("mul", a, a), (xor("b", t),), ("mul", a, a))))
        ends = self.fine((SKIP, ("local", "t", a, (SKIP,), b)))
        self.assertEqual(set(ends[0]), {DONE, ("fail", "local", (0, 1))})
        self.assertEqual(set(ends[1]), {DONE, ("fail", "local", (0, 0))})
        deep = (("local", "t", a, (("local", "u", t, (
            ("local", "v", ("add", t, var("u")), (plus("b", var("v")), ("swap", t, var("u"))), ("add", t, var("u"))),
        ), a),), a),)
        self.all_done(deep)
        # the value that a local has at its end may be one of another local, or of a cell
        self.all_done((("local", "t", cell("r", b), (plus("t", num(2)), minus("t", num(2))), cell("r", b)),))

    def test_nested_twenty_deep(self):
        def nest(depth, k):
            if depth == 0:
                return (plus("b", num(1)),)
            inner = nest(depth - 1, k + 1)
            word = ("if", "local", "loop")[k % 3]
            if word == "local":
                return (("local", "t%d" % k, num(k), inner, num(k)),)
            if word == "loop":
                return (("loop", num(1), inner, (), num(1)),)
            return (("if", var("a"), inner, (minus("b", num(1)),), var("a")),)
        self.all_done(nest(19, 0))
        self.all_done(nest(18, 1))
        self.fine(nested_ifs(19, (("if", var("a"), (), (), var("b")),)))


PROCEDURES = (
    ("add", (("x", 0), ("y", 0)), (plus("x", var("y")), SKIP)),
    ("cells", (("m", 4), ("x", 0)), (("plus", cell("m", var("x")), num(1)), ("swap", cell("m", num(0)), var("x")))),
    ("both", (("m", 4), ("x", 0), ("y", 0)), (
        ("call", "add", ("x", "y")), ("uncall", "cells", ("m", "y")),
        ("local", "t", num(5), (("call", "add", ("t", "x")), ("call", "add", ("y", "t")), ("uncall", "add", ("t", "x"))),
         num(5)),
    )),
    ("none", (), (("local", "t", num(1), (plus("t", num(1)),), num(2)),)),
    ("wrong", (("x", 0), ("y", 0)), (("if", var("x"), (), (), var("y")),)),
    ("late", (("x", 0), ("y", 0)), (("local", "t", var("x"), (), var("y")),)),
    ("turn", (("x", 0), ("y", 0)), (("loop", var("x"), (), (), var("y")),)),
)


class Calls(LowerTest):
    def test_calls_and_uncalls(self):
        for word in ("call", "uncall"):
            for name, args in (("add", ("a", "b")), ("add", ("b", "a")), ("cells", ("r", "a")), ("both", ("r", "a", "b")),
                               ("both", ("r", "b", "a")), ("none", ())):
                self.all_done(((word, name, args),), procedures=PROCEDURES)
                self.all_done((plus("a", num(1)), (word, name, args), SKIP, (word, name, args)), procedures=PROCEDURES)

    def test_of_locals(self):
        body = (("local", "t", var("a"), (
            ("local", "u", num(3), (("call", "add", ("t", "u")), ("call", "both", ("r", "u", "t")), plus("b", var("t")),
                                    ("uncall", "both", ("r", "u", "t"))), num(3)),
        ), ("add", var("a"), num(3))),)
        self.all_done(body, procedures=PROCEDURES)

    def test_fails_within_calls(self):
        for word in ("call", "uncall"):
            for name, at, fail in (("wrong", 5, "exit"), ("late", 6, "local")):
                ends = self.fine((SKIP, (word, name, ("a", "b"))), procedures=PROCEDURES)
                self.assertEqual(set(ends[0]), {DONE, ("fail", fail, (at, 0))})
                self.assertEqual(set(ends[1]), {DONE, ("fail", fail, (at, 0))})
            stores = [store(a, b) for a, b in ((1, 1), (0, 0), (0, 1), (3, 1))]
            ends = self.fine((SKIP, ("call", "turn", ("a", "b"))), stores, procedures=PROCEDURES)
            self.assertEqual(set(ends[0]), {DONE, ("fail", "entry", (7, 0))})

    def test_calls_within_what_runs_backward(self):
        twice = PROCEDURES + (
            ("outer", (("x", 0), ("y", 0)), (
                plus("x", num(1)), ("uncall", "add", ("x", "y")), ("if", var("y"), (("call", "wrong", ("x", "y")),), (), var("y")),
            )),
        )
        for word in ("call", "uncall"):
            ends = self.fine(((word, "outer", ("a", "b")), ("call", "outer", ("b", "a"))), procedures=twice)
            self.assertIn(DONE, ends[0])
        ends = self.fine((("uncall", "outer", ("a", "b")),), procedures=twice)
        self.assertIn(("fail", "exit", (5, 0)), ends[0])

    def test_many_params(self):
        names = tuple("g%d" % k for k in range(12))
        declared = tuple((name, 0 if k % 3 else 2) for k, name in enumerate(names))
        many = ("many", tuple(("x" + name, size) for name, size in declared), (
            plus("xg1", cell("xg0", var("xg2"))), ("plus", cell("xg9", var("xg4")), ("add", var("xg11"), cell("xg3", num(1)))),
            ("swap", var("xg5"), cell("xg6", var("xg7"))),
        ))
        first = tuple((name, (k + 5, k + 6) if size else k + 1) for k, (name, size) in enumerate(declared))
        self.all_done((("call", "many", names), ("call", "many", names)), [first], declared=declared, procedures=(many,))
        self.all_done((("uncall", "many", names),), [first], declared=declared, procedures=(many,))

    def test_main_anywhere(self):
        main = ("main", (), (("call", "add", ("a", "b")), ("uncall", "wrong", ("a", "b"))))
        for at in range(3):
            procedures = PROCEDURES[:at] + (main,) + PROCEDURES[at:]
            made = (8, (("a", 0), ("b", 0)), procedures)
            ends = agrees(self, made, [(("a", a), ("b", b)) for a in (0, 1, 250) for b in (0, 6)])
            self.assertIn(("fail", "exit", (4 if at > 4 else 5, 0)), ends[0])

    def test_64_procedures(self):
        chain = tuple(("p%d" % k, (("x", 0),), (plus("x", num(1)), ("call", "p%d" % (k + 1), ("x",)))) for k in range(62))
        last = ("p62", (("x", 0),), (("if", var("x"), (), (), num(1)),))
        ends = self.fine((("call", "p0", ("a",)),), procedures=chain + (last,))
        self.assertEqual(set(ends[0]), {DONE})
        ends = self.fine((("call", "p0", ("a",)),), [store(256 - 62)], procedures=chain + (last,))
        self.assertEqual(ends[0], [("fail", "exit", (63, 0))])

    def test_recursion(self):
        made = (8, (("n", 0),), (("main", (), (("call", "down", ("n",)),)), countdown("down")))
        for ends in agrees(self, made, [(("n", n),) for n in range(20)]):
            self.assertEqual(set(ends), {DONE})
        stores = [(("n", n), ("x", 0), ("y", 0)) for n in range(8)]
        self.assertEqual(set(agrees(self, FIBONACCI, stores)[0]), {DONE})
        behind = [run(FIBONACCI, first, fuel=300)[0] for first in stores]
        self.assertEqual(set(agrees(self, FIBONACCI, behind)[1]), {DONE})
        each_other = (
            ("even", (("n", 0), ("x", 0)), (
                ("if", var("n"), (minus("n", num(1)), ("call", "odd", ("n", "x")), plus("n", num(1))), (plus("x", num(1)),),
                 var("n")),)),
            ("odd", (("n", 0), ("x", 0)), (
                ("if", var("n"), (minus("n", num(1)), ("uncall", "even", ("n", "x")), plus("n", num(1))), (plus("x", num(2)),),
                 var("n")),)),
        )
        self.all_done((("call", "even", ("a", "b")),), [store(a) for a in range(12)], procedures=each_other)

    def test_calls_that_nest_2000_deep(self):
        made = (16, (("n", 0),), (("main", (), (("call", "down", ("n",)),)), countdown("down")))
        build = build_of(self, made, 4096 * 4)
        first = (("n", 1999),)
        self.assertEqual(ends_like_the_run(self, made, build, first, 4096 * 4, 10 ** 5), DONE)


class Known(unittest.TestCase):
    def test_counting(self):
        stores = [(("a", a), ("b", 200)) for a in (1, 2, 77, 255)]
        self.assertEqual(set(agrees(self, COUNTING, stores, fuel=2000)[0]), {DONE})
        agrees(self, COUNTING, [(("a", 0), ("b", 0))], fuel=5000)

    def test_turning(self):
        first = (("r", (1, 2, 3, 4, 5)), ("i", 0), ("j", 0))
        self.assertEqual(agrees(self, TURNING, [first])[0], [DONE])
        agrees(self, TURNING, [(("r", (5, 4, 3, 2, 1)), ("i", 0), ("j", 0))])

    def test_a_program_of_5000_statements(self):
        body = (plus("a", ("mul", var("b"), num(3))), ("if", var("a"), (xor("b", num(1)),), (SKIP,), var("a")))
        made = program(body * 1250)
        self.assertEqual(faults(made), [])
        build = build_of(self, made, 60)
        self.assertEqual(ends_like_the_run(self, made, build, store(1, 2), 60, 10 ** 5), DONE)


class Frames(unittest.TestCase):
    def outcomes(self, made, first, fuel=300):
        """How the runs end for memories from the globals' size on, up to the first one that is large enough."""
        found = []
        for cells in range(max(1, size_of_globals(made)), 400):
            build = build_of(self, made, cells)
            end = ends_like_the_run(self, made, build, first, cells, fuel)
            if not found or found[-1] != end:
                found.append(end)
            if end[0] != "frame":
                for more in (cells + 1, cells + 17, 1000):
                    build = build_of(self, made, more)
                    self.assertEqual(ends_like_the_run(self, made, build, first, more, fuel), end)
                return found
        return found

    def test_the_frame_of_main(self):
        for body in ((), (SKIP,), (plus("a", num(1)),), (("local", "t", num(1), (), num(1)),)):
            self.assertEqual(self.outcomes(program(body), store()), [("frame", ()), DONE])
        # it comes ahead of all that could fail
        wrong = (("if", num(1), (), (), num(0)),)
        self.assertEqual(self.outcomes(program(wrong), store()), [("frame", ()), ("fail", "exit", (0, 0))])

    def test_the_frames_of_calls(self):
        made = program((SKIP, ("call", "one", ("a",))), procedures=(
            ("one", (("x", 0),), (("if", num(1), (("uncall", "two", ("x",)),), (), num(1)),)),
            ("two", (("x", 0),), (("local", "t", num(2), (("call", "three", ("x", "t")),), num(2)),)),
            ("three", (("x", 0), ("y", 0)), (plus("x", var("y")),)),
        ))
        self.assertEqual(self.outcomes(made, store()), [
            ("frame", ()), ("frame", (0, 1)), ("frame", (1, 0, 0, 0)), ("frame", (2, 0, 0, 0)), DONE])
        self.assertEqual(self.outcomes(inverse(made), store()), [
            ("frame", ()), ("frame", (0, 0)), ("frame", (1, 0, 0, 0)), ("frame", (2, 0, 0, 0)), DONE])

    def test_calls_behind_one_another(self):
        # the second call needs more room than the first one
        made = program((("call", "small", ()), plus("a", num(1)), ("uncall", "large", ())), procedures=(
            ("small", (), (SKIP,)),
            ("large", (), (("local", "t", num(2), (("local", "u", num(2), (), num(2)),), num(2)),)),
        ))
        self.assertEqual(self.outcomes(made, store())[-2:], [("frame", (0, 2)), DONE])
        # backward it is the other way round
        self.assertEqual(self.outcomes(inverse(made), store())[-2:], [("frame", (0, 0)), DONE])

    def test_no_cell_is_wasted(self):
        # a cell for the return offset, one for each param and each local that is there
        def needed(made, first):
            cells = size_of_globals(made)
            while ends_like_the_run(self, made, build_of(self, made, cells), first, cells)[0] == "frame":
                cells += 1
            return cells - size_of_globals(made)
        self.assertEqual(needed(program((plus("a", var("b")),)), store()), 1)
        local = ("local", "t", num(2), (("local", "u", num(2), (), num(2)),), num(2))
        self.assertEqual(needed(program((local, local)), store()), 3)
        made = program((("local", "t", num(2), (("call", "p", ("a", "t")),), num(2)),), procedures=(
            ("p", (("x", 0), ("y", 0)), (("local", "u", num(2), (), num(2)),)),))
        self.assertEqual(needed(made, store()), 2 + 4)
        made = (8, (("n", 0),), (("main", (), (("call", "down", ("n",)),)), countdown("down")))
        self.assertEqual(needed(made, (("n", 9),)), 1 + 2 * 10)

    def test_what_fails_first(self):
        made = program((("if", num(1), (), (), num(0)), ("call", "large", ())), procedures=(
            ("large", (), (("local", "t", num(2), (("local", "u", num(2), (), num(2)),), num(2)),)),))
        self.assertEqual(self.outcomes(made, store()), [("frame", ()), ("fail", "exit", (0, 0))])
        self.assertEqual(self.outcomes(inverse(made), store())[-2:], [("frame", (0, 0)), ("fail", "exit", (0, 1))])

    def test_recursion(self):
        made = (8, (("n", 0),), (("main", (), (("call", "down", ("n",)),)), countdown("down")))
        for n in (0, 1, 5):
            found = self.outcomes(made, (("n", n),))
            want = [("frame", ()), ("frame", (0, 0))] + [("frame", (1, 0, 0, 1))] * (n > 0) + [DONE]
            self.assertEqual(found, want)

    def test_recursion_without_end(self):
        for word in ("call", "uncall"):
            made = program(((word, "own", ("a",)),), procedures=(("own", (("x", 0),), (("call", "own", ("x",)),)),))
            for cells in (50, 51, 52, 53, 500):
                build = build_of(self, made, cells)
                self.assertEqual(ends_like_the_run(self, made, build, store(), cells, 1000), ("frame", (1, 0)))
        turning = program((("call", "own", ("a",)),), procedures=(
            ("own", (("x", 0),), (plus("x", num(1)), ("uncall", "own", ("x",)), plus("x", num(1)))),))
        build = build_of(self, turning, 77)
        self.assertEqual(ends_like_the_run(self, turning, build, store(), 77, 1000), ("frame", (1, 1)))

    def test_random_programs(self):
        words = {}
        for seed in range(60):
            maker = Maker(seed)
            made = maker.program()
            first = maker.store(made)
            for cells in range(8, 40, 3):
                for turned in (made, inverse(made)):
                    build = build_of(self, turned, cells)
                    end = ends_like_the_run(self, turned, build, first, cells)
                    words[end[0]] = words.get(end[0], 0) + 1
        self.assertGreater(min(words.get(word, 0) for word in ("frame", "done", "fail")), 50)


class RandomPrograms(unittest.TestCase):
    def test_they_agree(self):
        words = {}
        for seed in range(500):
            maker = Maker(seed)
            made = maker.program()
            stores = [maker.store(made) for _ in range(2)]
            stores.append(run(made, stores[0], fuel=300)[0])
            for ends in agrees(self, made, stores):
                for end in ends:
                    words[end[:2]] = words.get(end[:2], 0) + 1
        for word in (DONE, ("fail", "exit"), ("fail", "entry"), ("fail", "local")):
            self.assertGreater(words.get(word, 0), 100)
        self.assertGreater(words.get(NONE, 0), 0)
