import copy
import inspect
import unittest

from backrun.run import empty_store, is_store, reached, run, trace
from tests.oracle import Oracle
from tests.samples import (
    COUNTING, FIBONACCI, SKIP, TURNING, Maker, cell, countdown, minus, nested_ifs, num, plus, program, var, xor,
)

DONE = ("done",)
NONE = ("none",)


def store(a=0, b=0, r=(0, 0, 0, 0)):
    return (("a", a), ("b", b), ("r", r))


def at_main(body, first, fuel=1000, backward=False, **more):
    return run(program(body, **more), first, fuel=fuel, backward=backward)


class Stores(unittest.TestCase):
    def test_empty(self):
        self.assertEqual(empty_store(program(())), (("a", 0), ("b", 0), ("r", (0, 0, 0, 0))))
        self.assertEqual(empty_store(program((), declared=())), ())
        self.assertEqual(empty_store(program((), declared=(("one", 1), ("z", 0)))), (("one", (0,)), ("z", 0)))
        self.assertEqual(empty_store(program((), declared=(("big", 256),))), (("big", (0,) * 256),))
        self.assertIs(is_store(program(()), empty_store(program(()))), True)

    def test_they_are_stores(self):
        for value in (store(), store(255, 0, (1, 2, 3, 255)), store(r=(255,) * 4)):
            self.assertIs(is_store(program(()), value), True)
        self.assertIs(is_store(program((), declared=()), ()), True)
        self.assertIs(is_store(program((), declared=(("one", 1),)), (("one", (7,)),)), True)
        for width in (1, 2, 31, 32):
            high = 2 ** width - 1
            made = program((), declared=(("a", 0), ("r", 2)), width=width)
            self.assertIs(is_store(made, (("a", high), ("r", (0, high)))), True)
            self.assertIs(is_store(made, (("a", high + 1), ("r", (0, high)))), False)
            self.assertIs(is_store(made, (("a", high), ("r", (0, high + 1)))), False)

    def test_they_are_none(self):
        good = store()
        bad = [
            None, True, False, 0, 1, "", "a", [], {}, (), list(good), good[:2], good + (("c", 0),), good[::-1],
            (good[1], good[0], good[2]), (good[0], good[0], good[2]), (["a", 0], good[1], good[2]),
            (("a",), good[1], good[2]), (("a", 0, 0), good[1], good[2]), (None, good[1], good[2]),
            (("c", 0), good[1], good[2]), ((b"a", 0), good[1], good[2]), ((None, 0), good[1], good[2]),
            ((["a"], 0), good[1], good[2]), ("a0", good[1], good[2]),
        ]
        for value in (256, -1, True, False, None, "1", 1.0, (), (0,), [0], {}):
            bad.append(store(a=value))
        for value in (0, (), (0, 0, 0), (0,) * 5, [0, 0, 0, 0], (0, 0, 0, 256), (0, 0, 0, -1), (0, True, 0, 0),
                      (0, 0, False, 0), (0, None, 0, 0), (0, (0,), 0, 0), "0000", None, (0, 0, 0, 1.0)):
            bad.append(store(r=value))
        for value in bad:
            self.assertIs(is_store(program(()), value), False, value)
        for value in (None, 0, [], ((),), (("a", 0),)):
            self.assertIs(is_store(program((), declared=()), value), False, value)
        one = program((), declared=(("one", 1),))
        for value in ((("one", 7),), (("one", ()),), (("one", (7, 7)),), (("one", [7]),)):
            self.assertIs(is_store(one, value), False, value)


class EachStatement(unittest.TestCase):
    def both(self, body, first, last, steps, **more):
        self.assertEqual(at_main(body, first, **more), (last, DONE, steps))
        self.assertEqual(at_main(body, last, backward=True, **more), (first, DONE, steps))

    def test_nothing(self):
        self.both((), store(3), store(3), 0)
        self.assertEqual(at_main((), store(3), fuel=0), (store(3), DONE, 0))

    def test_changes(self):
        self.both((plus("a", num(3)),), store(254), store(1), 1)
        self.both((minus("a", num(3)),), store(1), store(254), 1)
        self.both((xor("a", var("b")),), store(12, 10), store(6, 10), 1)
        self.both((plus("a", cell("r", var("b"))),), store(1, 6, (5, 6, 7, 8)), store(8, 6, (5, 6, 7, 8)), 1)
        self.both((("plus", cell("r", var("a")), var("b")),), store(7, 2, (0, 0, 0, 255)), store(7, 2, (0, 0, 0, 1)), 1)
        self.both((("minus", cell("r", num(4)), num(1)),), store(), store(r=(255, 0, 0, 0)), 1)
        self.both((("xor", cell("r", num(255)), num(9)),), store(), store(r=(0, 0, 0, 9)), 1)

    def test_changes_at_other_widths(self):
        first, last = (("x", 4294967295),), (("x", 4294967294),)
        self.both((plus("x", num(4294967295)),), first, last, 1, declared=(("x", 0),), width=32)
        self.both((plus("x", num(1)),), (("x", 1),), (("x", 0),), 1, declared=(("x", 0),), width=1)
        self.both((minus("x", num(1)),), (("x", 0),), (("x", 1),), 1, declared=(("x", 0),), width=1)

    def test_swaps(self):
        self.both((("swap", var("a"), var("b")),), store(1, 2), store(2, 1), 1)
        self.both((("swap", cell("r", var("a")), var("b")),), store(6, 2, (0, 0, 9, 0)), store(6, 9, (0, 0, 2, 0)), 1)
        two = (("k", 0), ("r", 2), ("s", 3))
        self.both((("swap", cell("r", var("k")), cell("s", var("k"))),),
                  (("k", 5), ("r", (1, 2)), ("s", (3, 4, 5))), (("k", 5), ("r", (1, 5)), ("s", (3, 4, 2))), 1,
                  declared=two)

    def test_skip(self):
        self.both((SKIP, SKIP), store(1), store(1), 2)

    def test_the_order_of_a_body(self):
        body = (plus("a", num(1)), ("swap", var("a"), var("b")), plus("a", num(10)), xor("b", num(1)))
        self.both(body, store(4, 20), store(30, 4), 4)

    def test_ifs(self):
        body = (("if", var("a"), (plus("b", num(1)), SKIP), (plus("b", num(2)),), var("a")),)
        self.both(body, store(5), store(5, 1), 3)
        self.both(body, store(0), store(0, 2), 2)
        other = (("if", ("equal", var("a"), num(3)), (plus("a", num(1)),), (), ("equal", var("a"), num(4))),)
        self.both(other, store(3), store(4), 2)
        self.both(other, store(2), store(2), 1)

    def test_any_word_but_zero_holds(self):
        body = (("if", num(128), (plus("b", num(1)),), (), num(2)), ("loop", num(7), (SKIP,), (), num(255)))
        self.both(body, store(), store(0, 1), 4)

    def test_loops(self):
        body = (("loop", ("equal", var("a"), num(0)), (plus("a", num(1)),), (plus("b", num(2)),),
                 ("equal", var("a"), num(3))),)
        # the loop, the first body three times, the second one twice, two further turns
        self.both(body, store(), store(3, 4), 8)
        self.both((("loop", num(1), (), (), num(1)),), store(), store(), 1)

    def test_empty_turns(self):
        body = (("loop", ("not", var("a")), (), (plus("a", num(1)),), ("equal", var("a"), num(2))),)
        self.both(body, store(), store(2), 5)

    def test_locals(self):
        body = (("local", "t", var("a"), (plus("t", num(1)), plus("b", var("t"))), ("add", var("a"), num(1))),)
        self.both(body, store(4), store(4, 5), 3)
        self.both((("local", "t", num(3), (), num(3)),), store(), store(), 1)
        again = (("local", "t", num(1), (), num(1)), ("local", "t", num(2), (plus("a", var("t")),), num(2)))
        self.both(again, store(), store(2), 3)

    def test_calls(self):
        add = ("add", (("x", 0), ("y", 0)), (plus("x", var("y")), SKIP))
        self.both((("call", "add", ("a", "b")),), store(1, 2), store(3, 2), 3, procedures=(add,))
        self.both((("call", "add", ("b", "a")),), store(1, 2), store(1, 3), 3, procedures=(add,))
        self.both((("uncall", "add", ("a", "b")),), store(1, 2), store(255, 2), 3, procedures=(add,))
        self.both((("call", "none", ()),), store(1), store(1), 1, procedures=(("none", (), ()),))

    def test_arrays_are_passed(self):
        put = ("put", (("k", 0), ("m", 4)), (("plus", cell("m", var("k")), num(3)), plus("k", num(1))))
        body = (("call", "put", ("a", "r")), ("call", "put", ("a", "r")), ("call", "put", ("b", "r")))
        self.both(body, store(2, 3), store(4, 4, (0, 0, 3, 6)), 9, procedures=(put,))

    def test_names_go_through_several_calls(self):
        three = ("three", (("p", 0), ("m", 4), ("q", 0)),
                 (plus("p", num(1)), ("swap", cell("m", var("p")), var("q")), plus("q", num(2))))
        two = ("two", (("m", 4), ("x", 0), ("y", 0)),
               (("local", "t", num(5), (("call", "three", ("t", "m", "y")), ("call", "three", ("x", "m", "t"))), num(10)),))
        body = (("call", "two", ("r", "b", "a")),)
        # t goes to 6, y takes r[2] and 2 more; x goes to 2, t takes what now stands in r[2], and 2 more
        first, last = store(8, 1, (1, 2, 3, 4)), store(5, 2, (1, 2, 6, 4))
        self.both(body, first, last, 10, procedures=(two, three))

    def test_call_and_uncall_within_each_other(self):
        one = ("one", (("x", 0),), (plus("x", num(1)), xor("x", num(6))))
        two = ("two", (("x", 0),), (("uncall", "one", ("x",)), plus("x", num(100))))
        self.both((("call", "two", ("a",)),), store(9), store(114), 5, procedures=(one, two))
        self.both((("uncall", "two", ("a",)),), store(114), store(9), 5, procedures=(one, two))

    def test_recursion(self):
        self.both((("call", "down", ("a",)),), store(20), store(20), 82, procedures=(countdown("down"),))
        self.assertEqual(run(FIBONACCI, (("n", 2), ("x", 0), ("y", 0)), fuel=99),
                         ((("n", 0), ("x", 2), ("y", 3)), DONE, 14))

    def test_two_procedures_that_call_each_other(self):
        even = ("even", (("n", 0), ("k", 0)), (
            ("if", var("n"), (minus("n", num(1)), ("call", "odd", ("n", "k")), plus("n", num(1))),
             (xor("k", num(1)),), var("n")),))
        odd = ("odd", (("n", 0), ("k", 0)), (
            ("if", var("n"), (minus("n", num(1)), ("uncall", "even", ("n", "k")), plus("n", num(1))), (), var("n")),))
        for n in (0, 1, 6, 7):
            first, last = store(n), store(n, 1 - n % 2)
            self.both((("call", "even", ("a", "b")),), first, last, 4 * n + (3 if n % 2 == 0 else 2),
                      procedures=(even, odd))

    def test_calls_two_thousand_deep(self):
        body = (("call", "down", ("n",)),)
        # main's call is the first one, so 1999 further calls are 2000 deep
        for n in (1999, 2000, 2100):
            first = (("n", n),)
            made = program(body, declared=(("n", 0),), procedures=(countdown("down"),), width=16)
            self.assertEqual(run(made, first, fuel=10 ** 6), (first, DONE, 4 * n + 2))
            self.assertEqual(run(made, first, fuel=10 ** 6, backward=True), (first, DONE, 4 * n + 2))
            self.assertEqual(run(made, first, fuel=3 * n)[1:], (NONE, 3 * n))

    def test_deep_calls_from_deep_statements(self):
        inner = nested_ifs(18, (minus("n", num(1)), ("call", "deep", ("n",)), plus("n", num(1))))
        deep = ("deep", (("n", 0),), (("if", var("n"), inner, (), var("n")),))
        made = program((("call", "deep", ("n",)),), declared=(("n", 0),), procedures=(deep,), width=16)
        self.assertEqual(run(made, (("n", 2000),), fuel=10 ** 6), ((("n", 2000),), DONE, 2 + 2000 * 22))

    def test_statements_twenty_deep(self):
        made = nested_ifs(19, (plus("a", num(1)),))
        self.assertEqual(at_main(made, store()), (store(1), DONE, 20))


class Fails(unittest.TestCase):
    def test_exit(self):
        first = (SKIP, ("if", var("a"), (plus("b", num(1)),), (), num(0)), SKIP)
        self.assertEqual(at_main(first, store(1)), (store(1, 1), ("fail", "exit", (0, 1)), 3))
        second = (("if", var("a"), (), (plus("b", num(1)),), num(1)),)
        self.assertEqual(at_main(second, store(0)), (store(0, 1), ("fail", "exit", (0, 0)), 2))
        self.assertEqual(at_main((("if", num(0), (), (), num(2)),), store()), (store(), ("fail", "exit", (0, 0)), 1))

    def test_exit_backward(self):
        # backward, the later test is the one that stands first
        first = (SKIP, ("if", var("a"), (plus("b", num(1)),), (), num(0)))
        self.assertEqual(at_main(first, store(1), backward=True), (store(1), ("fail", "exit", (0, 1)), 1))
        second = (("if", num(0), (plus("b", num(1)),), (), num(3)), SKIP)
        self.assertEqual(at_main(second, store(), backward=True), (store(0, 255), ("fail", "exit", (0, 0)), 3))

    def test_entry(self):
        body = (SKIP, ("loop", var("a"), (plus("b", num(1)),), (), num(1)))
        self.assertEqual(at_main(body, store()), (store(), ("fail", "entry", (0, 1)), 2))

    def test_entry_of_a_further_turn(self):
        body = (("loop", num(1), (plus("a", num(1)),), (plus("b", num(1)),), ("equal", var("a"), num(2))),)
        # the loop, the first and the second body; the turn that its test forbids takes no step
        self.assertEqual(at_main(body, store()), (store(1, 1), ("fail", "entry", (0, 0)), 3))
        self.assertEqual(at_main(body, store(), fuel=3), (store(1, 1), ("fail", "entry", (0, 0)), 3))

    def test_entry_backward(self):
        body = (("loop", num(1), (plus("a", num(1)),), (), num(0)), SKIP)
        self.assertEqual(at_main(body, store(), backward=True), (store(), ("fail", "entry", (0, 0)), 2))
        body = (("loop", num(0), (plus("a", num(1)),), (plus("b", num(1)),), num(1)),)
        self.assertEqual(at_main(body, store(), backward=True),
                         (store(255, 255), ("fail", "entry", (0, 0)), 3))

    def test_local(self):
        body = (("local", "t", num(1), (plus("t", num(2)), plus("a", var("t"))), num(4)),)
        self.assertEqual(at_main(body, store()), (store(3), ("fail", "local", (0, 0)), 3))
        self.assertEqual(at_main((("local", "t", var("a"), (), num(4)),), store()),
                         (store(), ("fail", "local", (0, 0)), 1))

    def test_local_backward(self):
        body = (("local", "t", num(1), (plus("t", num(2)), plus("a", var("t"))), num(4)),)
        self.assertEqual(at_main(body, store(4), backward=True), (store(), ("fail", "local", (0, 0)), 3))

    def test_the_path_within_bodies_and_procedures(self):
        wrong = ("local", "t", num(1), (), num(2))
        body = (SKIP, ("if", num(0), (), (SKIP, ("loop", num(1), (SKIP, SKIP, wrong), (), num(1))), num(0)))
        self.assertEqual(at_main(body, store())[1:], (("fail", "local", (0, 1, 1, 1, 0, 2)), 7))
        procedure = ("p", (("x", 0),), (plus("x", num(5)), ("if", num(1), (SKIP, wrong), (), num(1))))
        made = (8, (("a", 0),), (procedure, ("q", (), ()), ("main", (), (("call", "p", ("a",)), SKIP))))
        self.assertEqual(run(made, (("a", 1),), fuel=99), ((("a", 6),), ("fail", "local", (0, 1, 0, 1)), 5))
        self.assertEqual(run(made, (("a", 1),), fuel=99, backward=True),
                         ((("a", 1),), ("fail", "local", (0, 1, 0, 1)), 4))

    def test_the_globals_as_they_stand_where_it_stops(self):
        bad = ("bad", (("x", 0), ("m", 4)),
               (plus("x", num(1)), ("plus", cell("m", num(2)), num(9)), ("if", num(1), (), (), num(0)), plus("x", num(1))))
        mid = ("mid", (("m", 4), ("y", 0)), (("local", "t", num(0), (("call", "bad", ("y", "m")),), num(0)),))
        body = (plus("a", num(1)), ("call", "mid", ("r", "b")), plus("a", num(1)))
        self.assertEqual(at_main(body, store(), procedures=(mid, bad)),
                         (store(1, 1, (0, 0, 9, 0)), ("fail", "exit", (2, 2)), 7))


class Fuel(unittest.TestCase):
    def test_none_left(self):
        body = (plus("a", num(1)), plus("a", num(1)), plus("a", num(1)))
        for fuel in range(3):
            self.assertEqual(at_main(body, store(), fuel=fuel), (store(fuel), NONE, fuel))
            self.assertEqual(at_main(body, store(), fuel=fuel, backward=True), (store(-fuel % 256), NONE, fuel))
        for fuel in (3, 4, 1000, 10 ** 12):
            self.assertEqual(at_main(body, store(), fuel=fuel), (store(3), DONE, 3))

    def test_tests_behind_the_last_step_need_none(self):
        body = (("if", num(1), (("local", "t", num(1), (("loop", num(1), (SKIP,), (), num(1)),), num(1)),), (), num(1)),)
        self.assertEqual(at_main(body, store(), fuel=4), (store(), DONE, 4))
        self.assertEqual(at_main(body, store(), fuel=3), (store(), NONE, 3))
        self.assertEqual(at_main((("if", num(1), (SKIP,), (), num(0)),), store(), fuel=2)[1], ("fail", "exit", (0, 0)))
        self.assertEqual(at_main((("if", num(1), (SKIP,), (), num(0)),), store(), fuel=1)[1], NONE)
        self.assertEqual(at_main((("local", "t", num(1), (SKIP,), num(0)),), store(), fuel=2)[1],
                         ("fail", "local", (0, 0)))

    def test_a_further_turn_needs_one(self):
        body = (("loop", ("not", var("a")), (plus("a", num(1)),), (), ("equal", var("a"), num(3))),)
        self.assertEqual(at_main(body, store(), fuel=0), (store(), NONE, 0))
        self.assertEqual(at_main(body, store(), fuel=1), (store(), NONE, 1))
        self.assertEqual(at_main(body, store(), fuel=2), (store(1), NONE, 2))
        self.assertEqual(at_main(body, store(), fuel=3), (store(1), NONE, 3))
        self.assertEqual(at_main(body, store(), fuel=4), (store(2), NONE, 4))
        self.assertEqual(at_main(body, store(), fuel=5), (store(2), NONE, 5))
        self.assertEqual(at_main(body, store(), fuel=6), (store(3), DONE, 6))

    def test_a_run_without_an_end(self):
        body = (("loop", ("not", var("a")), (plus("a", num(1)),), (("if", num(0), (), (), num(0)),), num(0)),)
        first, end, steps = at_main(body, store(), fuel=500)
        self.assertEqual((end, steps), (("none",), 500))
        again = ("again", (), (("call", "again", ()),))
        self.assertEqual(at_main((("call", "again", ()),), store(), fuel=1500, procedures=(again,)),
                         (store(), NONE, 1500))

    def test_the_globals_within_calls(self):
        one = ("one", (("x", 0), ("m", 4)), (plus("x", num(1)), ("plus", cell("m", var("x")), num(1)), plus("x", num(1))))
        two = ("two", (("m", 4), ("y", 0)), (plus("y", num(1)), ("call", "one", ("y", "m")), plus("y", num(1))))
        body = (("call", "two", ("r", "b")),)
        seen = [at_main(body, store(), fuel=fuel, procedures=(one, two)) for fuel in range(8)]
        self.assertEqual(seen, [
            (store(), NONE, 0), (store(), NONE, 1), (store(0, 1), NONE, 2), (store(0, 1), NONE, 3),
            (store(0, 2), NONE, 4), (store(0, 2, (0, 0, 1, 0)), NONE, 5), (store(0, 3, (0, 0, 1, 0)), NONE, 6),
            (store(0, 4, (0, 0, 1, 0)), DONE, 7),
        ])


class Traces(unittest.TestCase):
    def test_it_is_a_generator(self):
        self.assertTrue(inspect.isgenerator(trace(COUNTING, empty_store(COUNTING), fuel=3)))

    def test_paths(self):
        body = (SKIP, ("loop", ("not", var("a")), (plus("a", num(1)),), (SKIP,), ("equal", var("a"), num(2))),
                ("if", num(0), (), (("call", "p", ()),), num(0)))
        made = program(body, procedures=(("p", (), (SKIP, SKIP)),))
        paths = [(0, 0), (0, 1), (0, 1, 0, 0), (0, 1, 1, 0), (0, 1), (0, 1, 0, 0), (0, 2), (0, 2, 1, 0), (1, 0), (1, 1)]
        self.assertEqual(list(trace(made, store(), fuel=99)), paths)
        for fuel in range(12):
            self.assertEqual(list(trace(made, store(), fuel=fuel)), paths[:fuel])
        back = [(0, 2), (0, 2, 1, 0), (1, 1), (1, 0), (0, 1), (0, 1, 0, 0), (0, 1, 1, 0), (0, 1), (0, 1, 0, 0), (0, 0)]
        self.assertEqual(list(trace(made, store(2), fuel=99, backward=True)), back)
        self.assertEqual(list(trace(made, store(2), fuel=4, backward=True)), back[:4])

    def test_uncalls(self):
        made = program((("uncall", "p", ()),), procedures=(("p", (), (SKIP, ("call", "q", ()))), ("q", (), (SKIP, SKIP))))
        self.assertEqual(list(trace(made, store(), fuel=99)), [(0, 0), (1, 1), (2, 1), (2, 0), (1, 0)])
        self.assertEqual(list(trace(made, store(), fuel=99, backward=True)), [(0, 0), (1, 0), (1, 1), (2, 0), (2, 1)])

    def test_fails(self):
        made = program((SKIP, ("loop", num(0), (SKIP,), (), num(1)), SKIP))
        self.assertEqual(list(trace(made, store(), fuel=9)), [(0, 0), (0, 1)])

    def test_reached(self):
        made = program((
            ("if", var("a"), (plus("b", num(1)), SKIP), (("if", var("b"), (SKIP,), (), var("b")),), var("a")), SKIP))
        self.assertEqual(reached(made, [], fuel=9), ())
        self.assertEqual(reached(made, [store(1)], fuel=9), ((0, 0), (0, 0, 0, 0), (0, 0, 0, 1), (0, 1)))
        self.assertEqual(reached(made, [store(0, 1)], fuel=9), ((0, 0), (0, 0, 1, 0), (0, 0, 1, 0, 0, 0), (0, 1)))
        self.assertEqual(reached(made, [store(1), store(1), store(0, 0)], fuel=9),
                         ((0, 0), (0, 0, 0, 0), (0, 0, 0, 1), (0, 0, 1, 0), (0, 1)))
        self.assertEqual(reached(made, [store(0, 1), store(1)], fuel=2), ((0, 0), (0, 0, 0, 0), (0, 0, 1, 0)))
        self.assertEqual(reached(made, [store(1)], fuel=0), ())
        many = program(tuple(SKIP for _ in range(12)))
        self.assertEqual(reached(many, [store()], fuel=99), tuple((0, k) for k in range(12)))


class AgainstTheOracle(unittest.TestCase):
    def test_random_programs(self):
        for seed in range(300):
            maker = Maker(seed)
            made = maker.program()
            first = maker.store(made)
            for backward in (False, True):
                for fuel in (0, 5, 23, 250):
                    oracle = Oracle(made, first, fuel)
                    told = oracle.run(backward)
                    self.assertEqual(run(made, first, fuel=fuel, backward=backward), told)
                    self.assertEqual(list(trace(made, first, fuel=fuel, backward=backward)), oracle.paths)
            self.assertEqual(reached(made, [first], fuel=99), tuple(sorted(set(trace(made, first, fuel=99)))))

    def test_known_programs_with_all_fuels(self):
        for made, first in ((FIBONACCI, (("n", 4), ("x", 0), ("y", 0))), (COUNTING, (("a", 5), ("b", 1))),
                            (TURNING, (("r", (9, 8, 7, 6, 5)), ("i", 0), ("j", 0)))):
            for fuel in range(60):
                self.assertEqual(run(made, first, fuel=fuel), Oracle(made, first, fuel).run(False))


class NothingIsChanged(unittest.TestCase):
    def test_arguments_stay(self):
        first = (("r", (1, 2, 3, 4, 5)), ("i", 0), ("j", 0))
        stores = [first, first]
        made, before, first_before = TURNING, copy.deepcopy(TURNING), copy.deepcopy(first)
        run(made, first, fuel=99)
        run(made, first, fuel=7, backward=True)
        list(trace(made, first, fuel=99))
        reached(made, stores, fuel=99)
        is_store(made, first)
        empty_store(made)
        self.assertEqual((made, first, stores), (before, first_before, [first_before, first_before]))

    def test_stores_are_tuples(self):
        told = run(TURNING, (("r", (1, 2, 3, 4, 5)), ("i", 0), ("j", 0)), fuel=3)
        self.assertTrue(is_store(TURNING, told[0]))
        self.assertEqual([type(item) for item in told], [tuple, tuple, int])
