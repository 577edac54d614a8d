import copy
import random
import unittest

from backrun.faults import faults
from backrun.inverse import inverse
from backrun.programs import parts, statements
from backrun.run import run
from backrun.tidy import apply_step, check_steps, tidy
from tests.samples import COUNTING, FIBONACCI, SKIP, TURNING, Maker, cell, minus, num, plus, program, var, xor

SWAP = ("swap", var("a"), var("b"))
CALL = ("call", "p", ("a",))
P = ("p", (("x", 0),), ())
IF = ("if", num(1), (), (), num(1))
LOOP = ("loop", num(1), (), (), num(1))
LOCAL = ("local", "t", num(0), (), num(0))
NOT_SIMPLE = (CALL, ("uncall", "p", ("a",)), IF, LOOP, LOCAL)

THREE = ("add", num(1), num(2))

NO_STEPS = (
    None, True, False, 0, 1, "cancel", "", b"drop", (), [], {}, 1.5, ("cancel",), ("drop",), ("fold", (0, 0)),
    ["drop", (0, 0)], ("drop", [0, 0]), ("drop", (0, 0), ()), ("cancel", (0, 0), ()), ("merge", (0, 0), 1),
    ("exchange", (0, 0), (1, 1)), ("fold", (0, 0), (), ()), ("fold", (0, 0), [1]), ("fold", (0, 0), None),
    ("fold", (0, 0), 1), ("fold", (0, 0), "1"), ("fold", [0, 0], ()), ("fold", None, ()), ("swap", (0, 0)),
    ("", (0, 0)), (None, (0, 0)), (True, (0, 0)), ((), (0, 0)), (["drop"], (0, 0)), ({}, (0, 0)), ("drop", None),
    ("drop", 0), ("drop", "00"), ("drop", ()), ("drop", (0,)), ("drop", (0, 0, 0)), ("drop", (0, None)),
    ("drop", (None, 0)), ("drop", (0, "0")), ("drop", (0, 0.0)), ("drop", (0, (0,))), ("drop", (0, -1)),
    ("drop", (-1, 0)), ("drop", (0, False)), ("drop", (False, 0)), ("drop", (0, [])), ("Drop", (0, 0)),
    ("drop", (0, 0, 0, 0)), ("drop", (0, 1)), ("drop", (1, 0)), ("drop", (2, 0)), ("drop", (0, 10 ** 30)),
    ("drop", {}), (0, (0, 0)), ("cancel", (0, 0), None),
)


def nest(body):
    """Bodies of every kind that have a body in it, with the way to it."""
    return (
        ((0,), lambda inner: inner),
        ((0, 1, 0), lambda inner: (SKIP, ("if", var("a"), inner, (SKIP,), num(1)))),
        ((0, 1, 1), lambda inner: (SKIP, ("if", var("a"), (SKIP,), inner, num(1)))),
        ((0, 0, 0), lambda inner: (("loop", num(1), inner, (IF,), num(1)), SKIP)),
        ((0, 0, 1), lambda inner: (("loop", num(1), (IF,), inner, num(1)), SKIP)),
        ((0, 0, 0), lambda inner: (("local", "t", num(0), inner, num(0)),)),
        ((0, 0, 1, 0, 0, 1, 0), lambda inner: (
            ("if", num(1), (), (("local", "t", num(0), (IF, ("loop", num(1), inner, (), num(1))), num(0)),), num(1)),
        )),
    )


class StepTest(unittest.TestCase):
    def becomes(self, word, body, instead, way=(0,), more=()):
        """The step at the way in main's body gives another body; the same deeper in, and in another procedure."""
        first = program(body, procedures=(P,))
        before = copy.deepcopy(first)
        self.assertEqual(faults(first), [])
        path = (0,) + way
        self.assertEqual(apply_step(first, (word, path) + more), program(instead, procedures=(P,)))
        self.assertEqual(first, before)
        for prefix, around in nest(body):
            path = prefix + way
            first = program(around(body), procedures=(P,))
            last = program(around(instead), procedures=(P,))
            self.assertEqual(apply_step(first, (word, path) + more), last, path)
            params = (("a", 0), ("b", 0), ("r", 4))
            first = program((CALL,), procedures=(P, ("q", params, around(body))))
            last = program((CALL,), procedures=(P, ("q", params, around(instead))))
            self.assertEqual(apply_step(first, (word, (2,) + path[1:]) + more), last, path)
            self.assertEqual(faults(last), [])

    def is_refused(self, word, body, way=(0,), more=()):
        first = program(body, procedures=(P,))
        self.assertEqual(faults(first), [])
        self.assertIsNone(apply_step(first, (word, (0,) + way) + more), body)
        for prefix, around in nest(body):
            self.assertIsNone(apply_step(program(around(body), procedures=(P,)), (word, prefix + way) + more))


class NoSteps(unittest.TestCase):
    def test_values_that_are_none(self):
        first = program((plus("a", num(1)),))
        for value in NO_STEPS:
            self.assertIsNone(apply_step(first, value), value)

    def test_the_same_with_something_to_do(self):
        # here the right step is accepted, so that only the form is what is refused
        first = program((plus("a", num(0)), minus("a", num(0))))
        self.assertIsNotNone(apply_step(first, ("drop", (0, 0))))
        self.assertIsNotNone(apply_step(first, ("cancel", (0, 0))))
        for value in (("drop", (False, 0)), ("drop", (0, False)), ("drop", (0, True)), ("cancel", (0, False)),
                      ("merge", (False, 0)), ["drop", (0, 0)], ("drop", [0, 0]), ("drop", (0, 0), ()),
                      ("drop", (0, 0, 0)), ("drop", (0,)), ("drop", (0, -2)), ("drop", (-1, 0)), ("drop", (0, 2))):
            self.assertIsNone(apply_step(first, value), value)
        within = program((IF, ("if", num(1), (SKIP,), (SKIP,), num(1))))
        for way in ((0, 1, 0, 0), (0, 1, 1, 0)):
            self.assertIsNotNone(apply_step(within, ("drop", way)))
        for way in ((0, 1, 0), (0, 1, 0, 1), (0, 1, 2, 0), (0, 1, -1, 0), (0, 1, True, 0), (0, True, 0, 0),
                    (0, 1, 0, False), (0, 1, 1, 0, 0), (0, 1, 1, 0, 0, 0), (0, 0, 0, 0), (0, 1, 1, 1)):
            self.assertIsNone(apply_step(within, ("drop", way)), way)
        # a local has one body only
        local = program((("local", "t", num(0), (SKIP,), num(0)),))
        self.assertIsNotNone(apply_step(local, ("drop", (0, 0, 0, 0))))
        self.assertIsNone(apply_step(local, ("drop", (0, 0, 1, 0))))
        folded = program((plus("a", ("not", ("not", num(0)))),))
        self.assertIsNotNone(apply_step(folded, ("fold", (0, 0), (1,))))
        for place in (True, (True,), [1], (1.0,), ("1",), (None,), (-1,), (2,), (0,), (1, 1), (1, 0), ((1,),), None):
            self.assertIsNone(apply_step(folded, ("fold", (0, 0), place)), place)

    def test_nothing_but_an_empty_body(self):
        for word in ("cancel", "exchange", "merge", "drop"):
            self.assertIsNone(apply_step(program(()), (word, (0, 0))))
        self.assertIsNone(apply_step(program(()), ("fold", (0, 0), ())))


class Cancel(StepTest):
    def test_accepted(self):
        by_index = ("xor", cell("r", var("a")), var("b"))
        for one, two in (
            (plus("a", var("b")), minus("a", var("b"))), (minus("a", num(3)), plus("a", num(3))),
            (xor("a", THREE), xor("a", THREE)), (SWAP, SWAP), (SKIP, SKIP), (by_index, by_index),
            (("plus", cell("r", var("a")), num(1)), ("minus", cell("r", var("a")), num(1))),
        ):
            self.becomes("cancel", (one, two), ())
            self.becomes("cancel", (IF, one, two, CALL), (IF, CALL), (1,))
            self.becomes("cancel", (SKIP, IF, one, two), (SKIP, IF), (2,))

    def test_refused_as_they_are_no_inverses(self):
        for one, two in (
            (plus("a", num(3)), plus("a", num(3))), (plus("a", num(3)), minus("a", num(4))),
            (plus("a", num(3)), minus("b", num(3))), (plus("a", var("b")), minus("a", num(1))),
            (xor("a", num(1)), plus("a", num(1))), (minus("a", num(1)), minus("a", num(1))),
            (xor("a", num(1)), xor("a", num(2))), (SWAP, ("swap", var("b"), var("a"))), (SKIP, plus("a", num(0))),
            (("plus", cell("r", num(1)), num(1)), ("minus", cell("r", num(5)), num(1))),
            (plus("a", THREE), minus("a", num(3))), (SWAP, SKIP),
        ):
            self.is_refused("cancel", (one, two))
        self.is_refused("cancel", (SWAP, SKIP, SWAP))

    def test_refused_as_they_are_not_simple(self):
        self.is_refused("cancel", (CALL, ("uncall", "p", ("a",))))
        self.is_refused("cancel", (("uncall", "p", ("a",)), CALL))
        self.is_refused("cancel", (IF, IF))
        self.is_refused("cancel", (LOOP, LOOP))
        self.is_refused("cancel", (LOCAL, LOCAL))

    def test_refused_at_the_end(self):
        self.is_refused("cancel", (SKIP, SKIP), (1,))
        self.is_refused("cancel", (SKIP, SKIP), (2,))
        self.is_refused("cancel", (SKIP,))


class Exchange(StepTest):
    def test_accepted(self):
        index_b = ("plus", cell("r", var("b")), num(1))
        for one, two in (
            (plus("a", num(1)), plus("b", num(2))), (SKIP, SKIP), (SKIP, SWAP), (SWAP, SKIP),
            (plus("a", cell("r", num(0))), plus("b", cell("r", num(1)))), (index_b, plus("a", var("b"))),
            (SWAP, ("xor", cell("r", num(1)), num(2))), (plus("a", THREE), minus("b", THREE)),
        ):
            self.becomes("exchange", (one, two), (two, one))
            self.becomes("exchange", (two, one), (one, two))
            self.becomes("exchange", (IF, one, two, LOOP), (IF, two, one, LOOP), (1,))

    def test_refused_as_a_name_is_touched(self):
        for one, two in (
            (plus("a", num(1)), plus("a", num(1))), (plus("a", num(1)), xor("a", num(1))), (SWAP, plus("a", num(1))),
            (SWAP, plus("b", num(1))), (SWAP, SWAP), (SWAP, ("swap", var("b"), cell("r", num(0)))),
            (("plus", cell("r", num(0)), num(1)), ("plus", cell("r", num(1)), num(1))),
        ):
            self.is_refused("exchange", (one, two))
            self.is_refused("exchange", (two, one))

    def test_refused_as_a_name_is_looked_at(self):
        at_a = cell("r", var("a"))
        for one, two in (
            (plus("a", num(1)), plus("b", var("a"))), (plus("a", num(1)), ("plus", at_a, num(1))),
            (plus("a", num(1)), plus("b", at_a)), (plus("a", num(1)), plus("b", cell("r", ("not", var("a"))))),
            (SWAP, ("plus", at_a, num(1))), (plus("a", num(1)), ("swap", at_a, var("b"))),
            (("plus", cell("r", num(0)), num(1)), plus("b", cell("r", num(1)))),
            (xor("a", num(1)), xor("b", ("add", num(1), ("mul", num(2), ("not", var("a")))))),
            (("swap", cell("r", var("b")), var("a")), plus("b", num(1))),
        ):
            self.is_refused("exchange", (one, two))
            self.is_refused("exchange", (two, one))

    def test_refused_as_they_are_not_simple(self):
        for other in NOT_SIMPLE:
            self.is_refused("exchange", (SKIP, other))
            self.is_refused("exchange", (other, SKIP))

    def test_refused_at_the_end(self):
        self.is_refused("exchange", (SKIP, plus("a", num(1))), (1,))
        self.is_refused("exchange", (SKIP,))
        self.is_refused("exchange", (SKIP,), (1,))


class Merge(StepTest):
    def test_accepted(self):
        for one, two, total in (
            (plus("a", num(3)), plus("a", num(4)), 7), (plus("a", num(3)), minus("a", num(4)), 255),
            (minus("a", num(3)), plus("a", num(4)), 1), (minus("a", num(3)), minus("a", num(4)), 249),
            (plus("a", num(200)), plus("a", num(56)), 0), (plus("a", num(255)), plus("a", num(255)), 254),
            (minus("a", num(0)), minus("a", num(0)), 0), (minus("a", num(255)), minus("a", num(255)), 2),
            (plus("a", num(3)), minus("a", num(3)), 0),
        ):
            self.becomes("merge", (one, two), (plus("a", num(total)),))
            self.becomes("merge", (CALL, one, two, SKIP), (CALL, plus("a", num(total)), SKIP), (1,))

    def test_cells(self):
        place = cell("r", ("add", var("a"), num(1)))
        self.becomes("merge", (("plus", place, num(1)), ("minus", place, num(2))), (("plus", place, num(255)),))

    def test_other_widths(self):
        for width, sums in ((1, ((1, 1, 0), (1, 0, 1))), (32, ((4294967295, 4, 3), (2 ** 31, 2 ** 31, 0)))):
            for one, two, total in sums:
                first = program((plus("a", num(one)), plus("a", num(two))), width=width)
                self.assertEqual(apply_step(first, ("merge", (0, 0))), program((plus("a", num(total)),), width=width))

    def test_refused_as_it_is_no_number(self):
        for e in (var("b"), THREE, ("not", num(1)), cell("r", num(1))):
            self.is_refused("merge", (plus("a", e), plus("a", num(1))))
            self.is_refused("merge", (plus("a", num(1)), minus("a", e)))

    def test_refused_as_the_places_differ(self):
        self.is_refused("merge", (plus("a", num(1)), plus("b", num(1))))
        self.is_refused("merge", (plus("a", num(1)), ("plus", cell("r", num(1)), num(1))))
        self.is_refused("merge", (("plus", cell("r", num(1)), num(1)), ("plus", cell("r", num(2)), num(1))))
        self.is_refused("merge", (("plus", cell("r", num(1)), num(1)), ("plus", cell("r", num(5)), num(1))))

    def test_refused_as_it_is_neither_plus_nor_minus(self):
        for other in (xor("a", num(1)), SWAP, SKIP) + NOT_SIMPLE:
            self.is_refused("merge", (plus("a", num(1)), other))
            self.is_refused("merge", (other, plus("a", num(1))))
        self.is_refused("merge", (xor("a", num(1)), xor("a", num(1))))

    def test_refused_at_the_end(self):
        self.is_refused("merge", (plus("a", num(1)),))
        self.is_refused("merge", (plus("a", num(1)), plus("a", num(1))), (1,))
        self.is_refused("merge", (plus("a", num(1)), SKIP, plus("a", num(1))))


class Drop(StepTest):
    def test_accepted(self):
        for one in (SKIP, plus("a", num(0)), minus("b", num(0)), xor("a", num(0)),
                    ("plus", cell("r", ("add", var("a"), num(0))), num(0))):
            self.becomes("drop", (one,), ())
            self.becomes("drop", (IF, one, CALL), (IF, CALL), (1,))
            self.becomes("drop", (one, one), (one,), (1,))

    def test_refused(self):
        for one in (plus("a", num(1)), minus("a", num(255)), xor("a", num(1)), plus("a", ("not", num(1))),
                    plus("a", ("add", num(0), num(0))), plus("a", var("b")), SWAP) + NOT_SIMPLE:
            self.is_refused("drop", (one,))
            self.is_refused("drop", (SKIP, one, SKIP), (1,))
        self.is_refused("drop", (SKIP,), (1,))


class Fold(StepTest):
    def folds(self, e, place, folded):
        for word in ("plus", "minus", "xor"):
            self.becomes("fold", ((word, var("a"), e),), ((word, var("a"), folded),), (0,), (place,))
            by_cell = cell("s", THREE)
            one = program((SKIP, (word, by_cell, e)), declared=(("b", 0), ("r", 4), ("s", 2)))
            two = program((SKIP, (word, by_cell, folded)), declared=(("b", 0), ("r", 4), ("s", 2)))
            self.assertEqual(apply_step(one, ("fold", (0, 1), place)), two)

    def test_each_op(self):
        for op, x, y, word in (
            ("add", 200, 100, 44), ("sub", 1, 2, 255), ("mul", 16, 17, 16), ("and", 12, 10, 8), ("or", 12, 10, 14),
            ("xor", 12, 10, 6), ("less", 1, 2, 1), ("less", 2, 1, 0), ("equal", 5, 5, 1), ("equal", 5, 6, 0),
            ("shl", 3, 2, 12), ("shl", 3, 8, 0), ("shr", 255, 4, 15), ("shr", 255, 255, 0),
        ):
            self.folds((op, num(x), num(y)), (), num(word))
        self.folds(("not", num(0)), (), num(1))
        self.folds(("not", num(7)), (), num(0))

    def test_parts(self):
        self.folds(("add", THREE, var("b")), (1,), ("add", num(3), var("b")))
        self.folds(("add", var("b"), THREE), (2,), ("add", var("b"), num(3)))
        self.folds(("not", THREE), (1,), ("not", num(3)))
        self.folds(cell("r", THREE), (2,), cell("r", num(3)))
        deep = ("mul", var("b"), ("not", cell("r", ("sub", THREE, var("b")))))
        self.folds(deep, (2, 1, 2, 1), ("mul", var("b"), ("not", cell("r", ("sub", num(3), var("b"))))))

    def test_only_this_part(self):
        self.folds(("add", THREE, THREE), (1,), ("add", num(3), THREE))
        self.folds(("add", THREE, THREE), (2,), ("add", THREE, num(3)))

    def test_refused_as_the_part_is_no_op_of_numbers(self):
        for e, place in (
            (num(1), ()), (var("b"), ()), (cell("r", num(1)), ()), (cell("r", THREE), ()), (("add", num(1), var("b")), ()),
            (("add", var("b"), num(1)), ()), (("not", var("b")), ()), (("add", THREE, num(1)), ()), (THREE, (1,)),
            (("add", num(1), THREE), ()), (("not", THREE), ()), (THREE, (2,)), (cell("r", num(1)), (2,)),
            (("not", num(1)), (1,)), (("add", num(1), cell("r", num(1))), ()),
        ):
            self.is_refused("fold", (plus("a", e),), (0,), (place,))

    def test_refused_as_the_place_leads_nowhere(self):
        for e, place in (
            (THREE, (3,)), (THREE, (0,)), (THREE, (1, 1)), (("not", THREE), (2,)), (("not", THREE), (0,)),
            (cell("r", THREE), (1,)), (cell("r", THREE), (3,)), (cell("r", THREE), (0,)), (var("b"), (1,)), (num(3), (1,)),
            (("add", THREE, THREE), (1, 1)), (("add", THREE, THREE), (1, 3)), (THREE, (1,) * 200),
        ):
            self.is_refused("fold", (plus("a", e),), (0,), (place,))

    def test_refused_at_other_statements(self):
        self.is_refused("fold", (("if", THREE, (), (), THREE),), (0,), ((),))
        self.is_refused("fold", (("local", "u", THREE, (), THREE),), (0,), ((),))
        self.is_refused("fold", (("loop", THREE, (), (), THREE),), (0,), ((),))
        self.is_refused("fold", (("swap", cell("r", THREE), var("a")),), (0,), ((2,),))
        for other in (SKIP, CALL, SWAP):
            self.is_refused("fold", (other,), (0,), ((),))
        # the place's own index is no part of the expression
        self.is_refused("fold", (("plus", cell("r", THREE), num(1)),), (0,), ((2,),))
        self.is_refused("fold", (plus("a", THREE),), (1,), ((),))


def all_steps(made):
    """All values that could be steps, by what stands in a program."""
    for path, statement in statements(made):
        for word in ("cancel", "exchange", "merge", "drop"):
            yield (word, path)
        if statement[0] in ("plus", "minus", "xor"):
            waiting = [((), statement[2])]
            while waiting:
                place, e = waiting.pop()
                yield ("fold", path, place)
                for at, part in enumerate(parts(e)):
                    waiting.append((place + (2 if e[0] == "cell" else at + 1,), part))


class Untidy(Maker):
    """Makes programs in which much can be changed."""

    def expression(self, width, seen, barred, depth=0):
        if depth == 0 and self.random.random() < 0.5:
            return num(self.random.choice((0, 0, 1, 2)) % 2 ** width)
        return super().expression(width, seen, barred, depth)

    def body(self, width, seen, callable_procedures, depth):
        made = []
        for _ in range(self.random.randrange(1, 4)):
            statement = self.statement(width, seen, callable_procedures, depth)
            made.append(statement)
            if self.random.random() < 0.4:
                made.append(statement)
            if self.random.random() < 0.4 and statement[0] == "plus":
                made.append(("minus",) + statement[1:])
        return tuple(made)


class Sameness(unittest.TestCase):
    def same(self, first, last, stores, fuel=400):
        for store in stores:
            one = run(first, store, fuel=fuel)
            if one[1] == ("none",):
                continue
            two = run(last, store, fuel=fuel)
            self.assertEqual(one[0], two[0])
            self.assertEqual(one[1][:2], two[1][:2])

    def test_each_accepted_step(self):
        words = {}
        for seed in range(120):
            maker = Untidy(seed)
            made = maker.program()
            stores = [maker.store(made) for _ in range(2)]
            for step in all_steps(made):
                changed = apply_step(made, step)
                if changed is not None:
                    words[step[0]] = words.get(step[0], 0) + 1
                    self.assertEqual(faults(changed), [])
                    self.same(made, changed, stores)
        self.assertEqual(sorted(words), ["cancel", "drop", "exchange", "fold", "merge"])
        self.assertGreater(min(words.values()), 20)

    def test_tidied_programs(self):
        for seed in range(200):
            maker = Untidy(seed)
            made = maker.program()
            stores = [maker.store(made) for _ in range(3)]
            changed, at = check_steps(made, tidy(made))
            self.assertEqual(at, -1)
            self.assertEqual(faults(changed), [])
            self.same(made, changed, stores)
            self.same(inverse(made), inverse(changed), stores)


class CheckSteps(unittest.TestCase):
    body = (plus("a", num(1)), plus("b", num(2)), minus("a", num(1)), SKIP)

    def test_no_steps(self):
        for made in (program(self.body), FIBONACCI, program(())):
            self.assertEqual(check_steps(made, ()), (made, -1))

    def test_all_are_accepted(self):
        steps = (("exchange", (0, 0)), ("cancel", (0, 1)), ("drop", (0, 1)))
        first = program(self.body)
        self.assertEqual(check_steps(first, steps[:1]), (program((plus("b", num(2)), plus("a", num(1))) + self.body[2:]), -1))
        self.assertEqual(check_steps(first, steps[:2]), (program((plus("b", num(2)), SKIP)), -1))
        self.assertEqual(check_steps(first, steps), (program((plus("b", num(2)),)), -1))
        self.assertEqual(first, program(self.body))

    def test_the_first_one_that_is_refused(self):
        good = ("exchange", (0, 0))
        first = program(self.body)
        for bad in (("cancel", (0, 3)), ("drop", (0, 0)), None, 5, ("drop", (0, True)), [good]):
            self.assertEqual(check_steps(first, (bad,)), (None, 0))
            self.assertEqual(check_steps(first, (good, bad)), (None, 1))
            self.assertEqual(check_steps(first, (good, good, bad, bad)), (None, 2))
            self.assertEqual(check_steps(first, (bad, good)), (None, 0))
            self.assertEqual(check_steps(first, (bad, bad)), (None, 0))
        # a step that was accepted once need not be accepted again
        self.assertEqual(check_steps(first, (("drop", (0, 3)), ("drop", (0, 3)))), (None, 1))


class Tidy(unittest.TestCase):
    def becomes(self, body, instead, steps=None, **more):
        made = program(body, **more)
        found = tidy(made)
        self.assertIs(type(found), tuple)
        if steps is not None:
            self.assertEqual(len(found), steps)
        changed, at = check_steps(made, found)
        self.assertEqual(at, -1)
        self.assertEqual(changed, program(instead, **more))
        self.is_tidy(changed)

    def is_tidy(self, made):
        self.assertEqual(tidy(made), ())
        for step in all_steps(made):
            if step[0] != "exchange":
                self.assertIsNone(apply_step(made, step), step)

    def test_nothing_to_do(self):
        for made in (FIBONACCI, TURNING, program(()), program((plus("a", var("b")), SWAP))):
            self.is_tidy(made)
        self.assertEqual(tidy(COUNTING), (("drop", (0, 0, 0, 0, 1, 0)),))

    def test_one_step(self):
        self.becomes((SKIP,), (), 1)
        self.becomes((plus("a", num(1)), minus("a", num(1))), (), 1)
        self.becomes((SWAP, SWAP), (), 1)
        self.becomes((plus("a", num(1)), plus("a", num(2))), (plus("a", num(3)),), 1)
        self.becomes((plus("a", THREE),), (plus("a", num(3)),), 1)
        self.becomes((xor("a", num(0)), SWAP), (SWAP,), 1)

    def test_one_step_makes_room_for_another(self):
        # a cancel brings two together, a drop does, a fold makes a number, a sum goes to 0, again and again
        self.becomes((xor("a", num(1)), SWAP, SWAP, xor("a", num(1))), ())
        self.becomes((xor("a", var("b")), SKIP, xor("a", var("b"))), ())
        self.becomes((plus("a", var("b")), plus("b", num(0)), minus("a", var("b"))), ())
        self.becomes((plus("a", THREE), minus("a", num(3))), ())
        self.becomes((plus("a", ("not", THREE)),), ())
        self.becomes((plus("a", ("mul", ("not", ("not", THREE)), ("sub", THREE, num(1)))),), (plus("a", num(2)),))
        self.becomes((SWAP, plus("a", num(200)), plus("a", num(56)), SWAP), ())
        self.becomes((plus("a", num(1)), plus("a", num(2)), minus("a", num(3))), ())
        self.becomes((SWAP, plus("b", num(1)), xor("a", num(0)), plus("b", num(254)), SKIP, plus("b", num(1)), SWAP), ())
        self.becomes((plus("a", num(1)), SWAP, xor("b", num(2)), xor("b", num(2)), SWAP, plus("a", num(4))),
                     (plus("a", num(5)),))
        self.becomes((plus("a", cell("r", ("add", THREE, ("not", num(0))))),), (plus("a", cell("r", num(4))),), 3)

    def test_within_statements(self):
        inner = (plus("a", THREE), SKIP, minus("a", num(3)), SWAP)
        for prefix, around in nest(inner):
            made = program(around(inner))
            changed, at = check_steps(made, tidy(made))
            self.assertEqual(at, -1)
            self.is_tidy(changed)
            self.assertNotIn("skip", repr(changed))
            self.assertIn(repr(SWAP), repr(changed))
        # statements that become empty stay, and keep what is on both sides apart
        self.becomes((SWAP, ("if", num(1), (SKIP,), (SKIP,), num(1)), SWAP), (SWAP, IF, SWAP), 2)

    def test_all_procedures(self):
        procedures = (("q", (("x", 0),), (plus("x", num(1)), SKIP, minus("x", num(1)))), P)
        made = program((SKIP, ("call", "q", ("a",))), procedures=procedures)
        changed, at = check_steps(made, tidy(made))
        self.assertEqual((changed, at), (program((("call", "q", ("a",)),), procedures=(("q", (("x", 0),), ()), P)), -1))
        self.is_tidy(changed)

    def test_what_is_refused_stays(self):
        body = (CALL, ("uncall", "p", ("a",)), SWAP, ("swap", var("b"), var("a")), plus("a", num(1)), xor("a", num(1)),
                ("if", THREE, (), (), THREE), ("swap", cell("r", THREE), var("a")))
        self.becomes(body, body, 0, procedures=(P,))

    def test_random_programs(self):
        longest = 0
        for seed in range(150):
            made = Untidy(seed).program()
            before = copy.deepcopy(made)
            steps = tidy(made)
            self.assertEqual(made, before)
            changed, at = check_steps(made, steps)
            self.assertEqual(at, -1)
            self.is_tidy(changed)
            longest = max(longest, len(steps))
        self.assertGreater(longest, 10)

    def test_rows_of_simple_statements(self):
        pool = (SKIP, SWAP, plus("a", num(1)), minus("a", num(1)), plus("a", num(255)), xor("b", num(1)), plus("b", THREE),
                minus("b", num(3)), plus("a", var("b")), minus("a", var("b")))
        for seed in range(300):
            chance = random.Random(seed)
            made = program(tuple(chance.choice(pool) for _ in range(chance.randrange(30))))
            changed, at = check_steps(made, tidy(made))
            self.assertEqual(at, -1)
            self.is_tidy(changed)

    def test_a_long_body(self):
        half = tuple(plus("a", var("b")) if k % 2 else SWAP for k in range(2400))
        other = tuple(("minus",) + s[1:] if s[0] == "plus" else s for s in half[::-1])
        made = program(half + (SKIP,) * 199 + other)
        steps = tidy(made)
        self.assertEqual(len(steps), 2599)
        self.assertEqual(check_steps(made, steps), (program(()), -1))
