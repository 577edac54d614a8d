import copy
import unittest

from backrun.circuits import run_circuit
from backrun.errors import BackrunError, NoCircuit
from backrun.faults import faults
from backrun.inverse import inverse
from backrun.run import empty_store
from backrun.synth import bits_store, can_synthesize, store_bits, synthesize
from backrun.words import OPS
from tests.samples import (
    COUNTING, FIBONACCI, SKIP, TURNING, cell, minus, nested_ifs, nested_nots, num, plus, program, var, xor,
)
from tests.straight_samples import (
    StraightMaker, all_stores, does_the_same, looked_at_layout, some_stores,
)

LOOP = ("loop", num(1), (), (), num(1))
A, B, C = var("a"), var("b"), var("c")


def calling(name, *called):
    """A procedure without params that calls and uncalls others."""
    body = tuple((word, other, ()) for word, other in called)
    return (name, (), body)


class WhichPrograms(unittest.TestCase):
    def refused(self, made):
        self.assertEqual(faults(made), [])
        self.assertIs(can_synthesize(made), False)
        with self.assertRaises(NoCircuit):
            synthesize(made)

    def taken(self, made):
        self.assertEqual(faults(made), [])
        self.assertIs(can_synthesize(made), True)
        looked_at_layout(self, made)

    def test_the_error(self):
        self.assertTrue(issubclass(NoCircuit, BackrunError))

    def test_widths(self):
        for width in range(1, 9):
            self.taken(program([plus("a", num(1))], width=width))
        for width in (9, 10, 16, 32):
            self.refused(program([], width=width))

    def test_loops(self):
        self.refused(program([LOOP]))
        self.refused(program(nested_ifs(3, (LOOP,))))
        self.refused(program([("if", A, (), (LOOP,), A)]))
        self.refused(program([("local", "t", num(0), (LOOP,), num(0))]))
        self.refused(program([("call", "p", ())], procedures=[("p", (), (LOOP,))]))
        self.refused(program([("uncall", "p", ())], procedures=[("p", (), (LOOP,))]))
        chain = [calling("p", ("call", "q")), calling("q", ("uncall", "s")), ("s", (), nested_ifs(2, (LOOP,)))]
        self.refused(program([("call", "p", ())], procedures=chain))
        for made in (COUNTING, TURNING, FIBONACCI):
            self.refused(made)

    def test_loops_that_main_does_not_reach(self):
        self.taken(program([], procedures=[("p", (), (LOOP,))]))
        self.taken(program([("call", "q", ())], procedures=[
            calling("p", ("call", "s")), calling("q"), ("s", (), (LOOP,))]))

    def test_calls_that_lead_back(self):
        for one, other in (("call", "call"), ("call", "uncall"), ("uncall", "call"), ("uncall", "uncall")):
            self.refused(program([(one, "p", ())], procedures=[calling("p", (other, "p"))]))
            self.refused(program([("call", "p", ())], procedures=[calling("p", (one, "q")), calling("q", (other, "p"))]))
        self.refused(program([("call", "p", ())], procedures=[
            ("p", (), nested_ifs(2, (("call", "p", ()),)))]))
        self.refused(program([("call", "p", ())], procedures=[
            calling("s", ("call", "q")), calling("p", ("call", "q")), calling("q", ("call", "s"))]))
        # a procedure that calls itself where its run never does
        self.refused(program([("call", "p", ())], procedures=[
            ("p", (), (("if", num(0), (("call", "p", ()),), (), num(0)),))]))

    def test_calls_that_lead_back_where_main_does_not_reach(self):
        self.taken(program([], procedures=[calling("p", ("call", "p"))]))
        self.taken(program([("call", "s", ())], procedures=[
            calling("p", ("call", "q")), calling("q", ("uncall", "p"), ("call", "s")), calling("s")]))

    def test_calls_that_do_not_lead_back(self):
        # a procedure that is called several times, from several others
        many = [calling("p", ("call", "q"), ("uncall", "q"), ("call", "s")), calling("q", ("call", "s"), ("call", "s")),
                calling("s")]
        self.taken(program([("call", "p", ()), ("call", "s", ()), ("uncall", "p", ())], procedures=many))
        self.taken(program([("call", "p", ())], procedures=many[::-1]))

    def test_what_is_passed_stays(self):
        made = program([("call", "p", ("a",)), LOOP], procedures=[("p", (("x", 0),), (plus("x", num(1)),))])
        good = program([("call", "p", ("a",))], procedures=[("p", (("x", 0),), (plus("x", num(1)),))])
        before = copy.deepcopy((made, good))
        can_synthesize(made)
        layout = synthesize(good)
        kept = copy.deepcopy(layout)
        store = empty_store(good)
        bits_store(good, layout, store_bits(good, layout, store))
        self.assertEqual((made, good), before)
        self.assertEqual(layout, kept)


class Layouts(unittest.TestCase):
    def test_inputs(self):
        made = program([], declared=(("a", 0), ("r", 3), ("b", 0)), width=2)
        _, inputs, _ = looked_at_layout(self, made)
        self.assertEqual(inputs, ((0, 1), (2, 3), (4, 5), (6, 7), (8, 9)))
        store = (("a", 1), ("r", (2, 3, 0)), ("b", 2))
        layout = synthesize(made)
        bits = store_bits(made, layout, store)
        self.assertEqual(bits[:10], (1, 0, 0, 1, 1, 1, 0, 0, 0, 1))
        self.assertEqual(len(bits), layout[0][0])
        self.assertFalse(any(bits[10:]))
        self.assertEqual(bits_store(made, layout, bits), store)
        self.assertEqual(type(bits), tuple)

    def test_no_globals(self):
        made = program([SKIP], declared=())
        layout = looked_at_layout(self, made)
        self.assertEqual(layout[1], ())
        self.assertEqual(bits_store(made, layout, store_bits(made, layout, ())), ())
        self.assertEqual(run_circuit(layout[0], store_bits(made, layout, ())), store_bits(made, layout, ()))

    def test_no_globals_and_a_test_that_fails(self):
        made = program([("if", num(1), (), (), num(0))], declared=())
        layout = looked_at_layout(self, made)
        self.assertEqual(run_circuit(layout[0], store_bits(made, layout, ()))[layout[2]], 1)

    def test_the_store_on_wires_whatever_the_others_have(self):
        made = program([("if", A, (), (), A)], declared=(("a", 0), ("r", 2)), width=3)
        layout = synthesize(made)
        store = (("a", 5), ("r", (6, 3)))
        bits = list(store_bits(made, layout, store))
        for wire in range(9, layout[0][0]):
            bits[wire] = 1
        self.assertEqual(bits_store(made, layout, tuple(bits)), store)

    def test_one_size(self):
        made = program([], declared=(("r", 1), ("b", 0)), width=3)
        self.assertEqual(bits_store(made, synthesize(made), store_bits(made, synthesize(made), (("r", (5,)), ("b", 2)))),
                         (("r", (5,)), ("b", 2)))


class FromAllStores(unittest.TestCase):
    def check(self, body, declared=(("a", 0), ("b", 0), ("c", 0)), procedures=(), widths=(1, 2), ends=None):
        found = {}
        for width in widths:
            made = program(body, declared=declared, procedures=procedures, width=width)
            for end, count in does_the_same(self, made, all_stores(made)).items():
                found[end] = found.get(end, 0) + count
        self.assertEqual(set(found), {("done",)} if ends is None else ends)


class Variables(FromAllStores):
    """Small programs with variables, from all their stores."""

    def test_nothing(self):
        self.check([])
        self.check([SKIP, SKIP])

    def test_each_change(self):
        for word in ("plus", "minus", "xor"):
            for e in (B, num(0), num(1), ("add", B, C), ("not", B)):
                self.check([(word, A, e)], widths=(1, 2, 3) if e == B else (1, 2))
            self.check([(word, A, num(2))], widths=(2, 3))

    def test_each_op(self):
        for op in OPS:
            for first, second in ((B, C), (B, num(1)), (num(1), C), (B, B), (num(1), num(1)), (num(0), B), (C, num(0))):
                self.check([xor("a", (op, first, second))])
            self.check([plus("a", (op, B, num(3)))], widths=(2,))
            self.check([minus("a", (op, num(2), B))], widths=(2,))
            self.check([xor("a", (op, B, C))], widths=(3,))

    def test_nested_ops(self):
        for op in OPS:
            for other in OPS:
                self.check([xor("a", (op, (other, B, C), B))], widths=(2,))
                self.check([xor("a", (op, ("not", C), (other, num(1), B)))], widths=(2,))

    def test_not(self):
        for e in (("not", B), ("not", ("not", B)), ("not", num(0)), ("not", num(1)), ("not", ("less", B, C))):
            self.check([plus("a", e)])

    def test_swap(self):
        self.check([("swap", A, B)])
        self.check([("swap", A, B), ("swap", B, C)])

    def test_ifs(self):
        for e in (A, ("less", A, B), ("and", A, B), num(0), num(1)):
            self.check([("if", e, (plus("c", num(1)),), (minus("c", B), xor("c", A)), e)])
        tests = {("done",), ("fail", "exit")}
        self.check([("if", A, (plus("b", num(1)),), (), B)], ends=tests)
        self.check([("if", A, (), (xor("a", B),), A)], ends=tests)
        self.check([("if", num(1), (), (), num(0))], ends={("fail", "exit")})
        self.check([("if", num(0), (), (), B)], ends=tests)

    def test_several_tests(self):
        tests = {("done",), ("fail", "exit")}
        one = ("if", A, (), (), B)
        self.check([one, ("if", B, (), (), C)], ends=tests)
        # all of them fail, from some stores, so that their number must not come back to 0
        for many in (2, 3, 4, 7, 8):
            self.check([one] * many, ends=tests)
        self.check([one, plus("a", B), one, ("swap", B, C), one], ends=tests)

    def test_nested_ifs(self):
        inner = ("if", B, (plus("c", num(1)),), (minus("c", num(1)),), B)
        self.check([("if", A, (inner,), (SKIP, inner, inner), A)])
        self.check([("if", A, (("if", B, (xor("c", num(1)),), (xor("b", C),), B),), (), A)],
                   ends={("done",), ("fail", "exit")})
        self.check([("if", A, (), (("if", B, (), (("if", C, (), (plus("a", num(1)), minus("a", num(1))), C),), B),), A)])
        # tests that would fail stand in a body that is not done
        fails = ("if", num(1), (), (), num(0))
        self.check([("if", A, (fails,), (), A)], ends={("done",), ("fail", "exit")})
        self.check([("if", num(0), (fails,), (plus("a", num(1)),), num(0))])

    def test_locals(self):
        self.check([("local", "t", B, (plus("t", C), plus("a", var("t")), minus("t", C)), B)])
        self.check([("local", "t", A, (("swap", A, var("t")),), A)])
        self.check([("local", "t", num(0), (plus("t", A),), A)])
        both = {("done",), ("fail", "local")}
        self.check([("local", "t", A, (plus("t", B),), C)], ends=both)
        self.check([("local", "t", num(0), (), num(1))], ends={("fail", "local")})
        self.check([("local", "t", A, (("local", "u", var("t"), (plus("a", var("u")),), var("t")),), B)], ends=both)

    def test_locals_under_tests(self):
        body = (("local", "t", C, (plus("t", num(1)), plus("b", var("t"))), ("add", C, num(1))),)
        self.check([("if", A, body, body + body, A)])
        # e and f differ where the local is not done
        body = (("local", "t", B, (minus("b", num(1)), minus("t", num(1))), B),)
        self.check([("if", A, body, (), A)])
        self.check([("if", A, (), (("local", "t", B, (), C),), A)], ends={("done",), ("fail", "local")})

    def test_two_locals_of_one_name(self):
        one = ("local", "t", A, (plus("b", var("t")),), A)
        self.check([one, one, ("local", "t", B, (xor("c", var("t")),), B)])

    def test_calls(self):
        add = ("add", (("x", 0), ("y", 0)), (plus("x", var("y")),))
        self.check([("call", "add", ("a", "b"))], procedures=[add])
        self.check([("uncall", "add", ("a", "b"))], procedures=[add])
        self.check([("call", "add", ("c", "a")), ("uncall", "add", ("b", "c")), ("call", "add", ("a", "c"))],
                   procedures=[add])
        twice = ("twice", (("p", 0), ("q", 0)), (("call", "add", ("p", "q")), ("uncall", "add", ("q", "p"))))
        self.check([("call", "twice", ("b", "a")), ("uncall", "twice", ("a", "c"))], procedures=[twice, add])
        self.check([("uncall", "twice", ("b", "a"))], procedures=[add, twice])

    def test_calls_with_tests(self):
        test = ("test", (("x", 0), ("y", 0)), (
            ("if", var("x"), (plus("y", num(1)),), (), var("y")),
            ("local", "t", var("y"), (plus("t", var("x")),), var("x")),
        ))
        both = {("done",), ("fail", "exit"), ("fail", "local")}
        self.check([("call", "test", ("a", "b"))], procedures=[test], ends=both)
        self.check([("uncall", "test", ("a", "b"))], procedures=[test], ends=both)
        self.check([("call", "test", ("a", "b")), ("uncall", "test", ("a", "b"))], procedures=[test], ends=both)
        self.check([("call", "test", ("a", "b")), ("uncall", "test", ("b", "c"))], procedures=[test], ends=both)
        outer = ("outer", (("p", 0), ("q", 0)), (("if", var("p"), (("call", "test", ("p", "q")),),
                                                  (("uncall", "test", ("q", "p")),), var("p")),))
        self.check([("call", "outer", ("a", "b"))], procedures=[outer, test], ends=both)
        self.check([("if", C, (("uncall", "outer", ("a", "b")),), (SKIP,), C)], procedures=[outer, test], ends=both)

    def test_a_call_that_fails_and_its_uncall(self):
        # the test that fails on the way forth is undone on the way back, but the run has failed
        test = ("test", (("x", 0),), (("if", var("x"), (), (), num(0)),))
        self.check([("call", "test", ("a",)), ("uncall", "test", ("a",))], procedures=[test],
                   ends={("done",), ("fail", "exit")})
        self.check([("uncall", "test", ("a",)), ("call", "test", ("a",))], procedures=[test],
                   ends={("done",), ("fail", "exit")})

    def test_calls_under_tests(self):
        work = ("work", (("x", 0), ("y", 0)), (("swap", var("x"), var("y")), ("local", "t", var("x"), (
            plus("y", var("t")), ("if", var("t"), (minus("y", num(1)),), (), var("t"))), var("x"))))
        self.check([("if", C, (("call", "work", ("a", "b")),), (("uncall", "work", ("b", "a")),), C)], procedures=[work])

    def test_names_that_stand_for_others(self):
        # the callee's names are those of main for other words
        change = ("change", (("b", 0), ("a", 0)), (plus("b", num(1)), xor("a", B)))
        self.check([("call", "change", ("a", "b"))], procedures=[change])


class Arrays(FromAllStores):
    """Arrays, with numbers and with other words as indices."""

    def arrays(self, body, size, widths=(1, 2), procedures=(), ends=None, more=(("a", 0),)):
        self.check(body, declared=(("r", size),) + more, procedures=procedures, widths=widths, ends=ends)

    def test_reading(self):
        for size in (1, 2, 3, 4):
            widths = (1, 2) if size < 4 else (1,)
            self.arrays([plus("a", cell("r", num(0)))], size, widths)
            self.arrays([plus("a", cell("r", num(1)))], size, widths)
            self.arrays([("local", "t", A, (xor("a", cell("r", var("t"))), xor("a", cell("r", var("t")))), A)], size, widths)

    def test_reading_by_a_variable(self):
        for size in (1, 2, 3):
            self.arrays([plus("b", cell("r", A))], size, (1, 2) if size < 3 else (1,), more=(("a", 0), ("b", 0)))
        self.arrays([xor("b", cell("r", A))], 5, (1,), more=(("a", 0), ("b", 0)))
        self.arrays([xor("b", cell("r", A))], 3, (2,), more=(("a", 0), ("b", 0)))

    def test_changing_by_a_variable(self):
        for word in ("plus", "minus", "xor"):
            for size in (1, 2, 3):
                self.arrays([(word, cell("r", A), num(1))], size)
                self.arrays([(word, cell("r", A), A)], size)
            self.arrays([(word, cell("r", ("add", A, num(1))), ("not", A))], 2)
            self.arrays([(word, cell("r", num(3)), A)], 3, (2,))

    def test_changing_under_a_test(self):
        first, second = ("plus", cell("r", A), A), ("minus", cell("r", A), num(1))
        self.arrays([("if", A, (first,), (second,), A)], 2)

    def test_swaps(self):
        for size in (1, 2, 3):
            self.arrays([("swap", cell("r", num(0)), A)], size)
            self.arrays([("swap", A, cell("r", num(1)))], size)
            self.arrays([("swap", cell("r", A), B)], size, (1,), more=(("a", 0), ("b", 0)))
            self.arrays([("swap", B, cell("r", A))], size, (1,), more=(("a", 0), ("b", 0)))

    def test_swaps_of_two_arrays(self):
        more = (("s", 2), ("a", 0), ("b", 0))
        self.arrays([("swap", cell("r", A), cell("s", B))], 2, (1,), more=more)
        self.arrays([("swap", cell("r", A), cell("s", A))], 2, (1,), more=more)
        self.arrays([("swap", cell("s", ("equal", A, B)), cell("r", num(1)))], 2, (1,), more=more)
        self.arrays([("if", B, (("swap", cell("r", A), cell("s", B)),), (), B)], 3, (1,), more=more)
        self.arrays([("swap", cell("r", A), cell("s", ("not", A)))], 2, (2,), more=(("s", 2), ("a", 0)))
        self.arrays([("swap", cell("s", A), cell("r", cell("t", A)))], 1, (1,), more=(("s", 3), ("t", 2), ("a", 0)))

    def test_cells_in_indices(self):
        more = (("s", 2), ("a", 0))
        self.arrays([plus("a", cell("r", cell("s", num(1))))], 2, (1, 2), more=more)
        self.arrays([("plus", cell("r", cell("s", A)), num(1))], 2, (1, 2), more=more)
        self.arrays([("xor", cell("r", cell("s", A)), cell("s", ("not", A)))], 2, (1,), more=more)

    def test_arrays_that_are_passed(self):
        turn = ("turn", (("m", 2), ("k", 0), ("b", 0)), (
            ("swap", cell("m", var("k")), B), ("plus", cell("m", var("k")), var("k"))))
        self.arrays([("call", "turn", ("r", "a", "c")), ("uncall", "turn", ("r", "c", "a"))], 2, (1, 2), procedures=[turn],
                    more=(("a", 0), ("c", 0)))
        self.arrays([("call", "turn", ("s", "a", "c"))], 2, (1,), procedures=[turn], more=(("s", 2), ("a", 0), ("c", 0)))

    def test_more_cells_than_words(self):
        self.arrays([("plus", cell("r", A), num(1)), ("swap", cell("r", num(1)), A)], 5, (1,))


class RandomPrograms(unittest.TestCase):
    SMALL = (
        (1, (("a", 0), ("b", 0), ("r", 3))), (2, (("a", 0), ("r", 3))), (2, (("a", 0), ("b", 0), ("c", 0))),
        (3, (("a", 0), ("b", 0))), (1, (("a", 0), ("r", 2), ("s", 3))), (2, (("r", 2), ("s", 2))),
    )

    def test_small_ones_from_all_stores(self):
        ends = {}
        for seed in range(300):
            width, declared = self.SMALL[seed % len(self.SMALL)]
            made = StraightMaker(seed, width, declared).program()
            for end, count in does_the_same(self, made, all_stores(made)).items():
                ends[end] = ends.get(end, 0) + count
        self.assertEqual(set(ends), {("done",), ("fail", "exit"), ("fail", "local")})
        self.assertGreater(min(ends.values()), 200)

    def test_larger_ones_from_many_stores(self):
        ends = {}
        declared = (("a", 0), ("b", 0), ("c", 0), ("r", 3), ("s", 2), ("t", 7))
        for seed in range(120):
            made = StraightMaker(seed, 3 + seed % 6, declared).program()
            for end, count in does_the_same(self, made, some_stores(made, seed, 25)).items():
                ends[end] = ends.get(end, 0) + count
        self.assertEqual(set(ends), {("done",), ("fail", "exit"), ("fail", "local")})


class LargePrograms(unittest.TestCase):
    def test_each_op_of_eight_bits(self):
        for op in OPS:
            made = program([plus("a", (op, B, C)), xor("b", (op, C, A)), ("minus", C, (op, A, num(5)))],
                           declared=(("a", 0), ("b", 0), ("c", 0)))
            self.assertEqual(set(does_the_same(self, made, some_stores(made, 1, 200))), {("done",)})
            small = [(("a", 7), ("b", b), ("c", c)) for b in (0, 1, 200, 255) for c in range(12)]
            does_the_same(self, made, small)

    def test_a_large_array(self):
        declared = (("a", 0), ("r", 256), ("s", 100))
        made = program([("plus", cell("r", A), A), ("xor", cell("s", A), cell("r", ("sub", A, num(1)))),
                        ("swap", cell("r", A), cell("s", ("mul", A, num(3))))], declared=declared)
        self.assertEqual(set(does_the_same(self, made, some_stores(made, 5, 15))), {("done",)})

    def test_deep_nesting(self):
        made = program(nested_ifs(18, (plus("a", nested_nots(20)), ("if", B, (plus("a", num(1)),), (), B))))
        does_the_same(self, made, some_stores(made, 3, 20))
        body = (plus("a", B),)
        for at in range(19):
            body = (("local", f"t{at}", ("add", B, num(at % 4)), body, ("add", B, num(at % 4))),)
        made = program(body, width=2)
        self.assertEqual(set(does_the_same(self, made, some_stores(made, 4, 20))), {("done",)})

    def test_a_chain_of_calls(self):
        # 63 procedures, each of which nests its call of the next one 15 deep
        procedures = []
        for at in range(62):
            called = ("call" if at % 3 else "uncall", f"p{at + 1}", ("x", "y"))
            procedures.append((f"p{at}", (("x", 0), ("y", 0)), nested_ifs(15, (called, plus("x", num(1))))))
        procedures.append(("p62", (("x", 0), ("y", 0)), (plus("x", var("y")), xor("y", num(1)))))
        made = program([("call", "p0", ("a", "b"))], declared=(("a", 0), ("b", 0)), procedures=procedures, width=3)
        self.assertEqual(set(does_the_same(self, made, list(all_stores(made))[::5])), {("done",)})

    def test_a_procedure_that_is_done_many_times(self):
        procedures = [("p0", (("x", 0), ("y", 0)), (plus("x", var("y")), ("if", var("y"), (), (), var("y"))))]
        for at in range(1, 7):
            call = ("call", f"p{at - 1}", ("x", "y"))
            procedures.append((f"p{at}", (("x", 0), ("y", 0)), (call, call)))
        made = program([("call", "p6", ("a", "b")), ("uncall", "p5", ("a", "b"))], declared=(("a", 0), ("b", 0)),
                       procedures=procedures, width=3)
        self.assertEqual(set(does_the_same(self, made, all_stores(made))), {("done",)})

    def test_the_inverse_of_a_long_one(self):
        body = [plus("a", B), ("swap", A, B), xor("b", num(9)), ("local", "t", A, (plus("b", var("t")),), A)] * 30
        made = program(body)
        self.assertEqual(set(does_the_same(self, made, some_stores(made, 6, 30))), {("done",)})
        self.assertEqual(set(does_the_same(self, inverse(made), some_stores(made, 7, 30))), {("done",)})
