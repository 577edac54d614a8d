import copy
import unittest

from backrun.faults import faults
from tests.samples import (
    COUNTING, FIBONACCI, SKIP, TURNING, Maker, cell, minus, nested_ifs, nested_nots, num, plus, program, var, xor,
)

OTHERS = (None, True, False, 0, 1, -1, "", "skip", "main", b"", (), (1, 2), [], ["skip"], [1], {}, 1.5, (None,),
          ("nothing",), ((), ()), ([],), ({},), (("skip",),))

PAIR = ("pair", (("x", 0), ("m", 3)), ())
SELF = ("own", (("x", 0),), (("call", "own", ("x",)),))


def at_main(body, **more):
    """The faults of a program with this body of main; globals a, b of size 0 and r of 4 cells."""
    return faults(program(body, **more))


class NoFaults(unittest.TestCase):
    def test_programs_without(self):
        for made in (FIBONACCI, COUNTING, TURNING, program(()), program((), declared=(), width=1)):
            self.assertEqual(faults(made), [])
        for seed in range(100):
            self.assertEqual(faults(Maker(seed).program()), [])

    def test_each_statement(self):
        self.assertEqual(at_main((
            plus("a", var("b")), minus("a", cell("r", var("b"))), xor("a", num(255)),
            ("plus", cell("r", var("a")), var("b")), ("swap", var("a"), cell("r", var("b"))),
            ("if", var("a"), (SKIP,), (), cell("r", cell("r", var("a")))),
            ("loop", num(1), (), (SKIP,), num(0)),
            ("call", "pair", ("a", "m3")), ("uncall", "pair", ("b", "m3")),
            ("local", "t", var("a"), (plus("t", num(1)), plus("a", var("t"))), var("b")), SKIP,
        ), declared=(("a", 0), ("b", 0), ("r", 4), ("m3", 3)), procedures=(PAIR, SELF)), [])

    def test_no_more_is_asked(self):
        # names of globals in other procedures, one local behind the other, a global called as a procedure
        self.assertEqual(at_main((
            ("local", "t", num(0), (), num(0)), ("local", "t", num(0), (), num(0)), ("call", "a", ("a",)),
        ), procedures=(("a", (("b", 0),), (("local", "a", var("b"), (), var("b")),)),)), [])
        self.assertEqual(at_main((("call", "none", ()),), procedures=(("none", (), ()),)), [])
        self.assertEqual(at_main((("swap", cell("r", var("a")), var("b")),)), [])


class Form(unittest.TestCase):
    def test_values_of_other_kinds(self):
        for value in OTHERS:
            self.assertEqual(faults(value), [((), "form")], value)
        for value in ([8, (), ()], (8, ()), (8, (), (), ()), (8, [], ()), (8, (), []), (8, None, ()), (8, (), None),
                      (8, "", ()), (8, (), ""), (8, (), {}), (8, True, ()), "abc", list(program(()))):
            self.assertEqual(faults(value), [((), "form")], value)

    def test_behind_it_nothing_is_told(self):
        self.assertEqual(faults((99, (5,), [])), [((), "form")])
        self.assertEqual(faults((True, [], (5,))), [((), "form")])
        deep = (plus("zz", num(999)),) + nested_ifs(21) + (5,)
        self.assertEqual(at_main(deep, declared=(5,), width=77), [((), "form")])

    def test_statements(self):
        self.assertEqual(at_main(nested_ifs(20)), [])
        self.assertEqual(at_main(nested_ifs(19, (SKIP,))), [])
        self.assertEqual(at_main(nested_ifs(21)), [((), "form")])
        self.assertEqual(at_main(nested_ifs(20, (SKIP,))), [((), "form")])
        self.assertEqual(at_main(nested_ifs(3000)), [((), "form")])
        self.assertEqual(at_main((), procedures=(("p", (), nested_ifs(21)),)), [((), "form")])
        self.assertEqual(at_main((), procedures=(("p", (), nested_ifs(20)),)), [])

    def test_every_body(self):
        for wrap in (lambda inner: ("if", num(1), (), inner, num(1)),
                     lambda inner: ("loop", num(1), inner, (), num(1)),
                     lambda inner: ("loop", num(1), (), inner, num(1))):
            self.assertEqual(at_main((wrap(nested_ifs(19)),)), [])
            self.assertEqual(at_main((wrap(nested_ifs(20)),)), [((), "form")])
        self.assertEqual(at_main((("local", "t", num(1), nested_ifs(19), num(1)),)), [])
        self.assertEqual(at_main((("local", "t", num(1), nested_ifs(20), num(1)),)), [((), "form")])

    def test_expressions(self):
        for depth, told in ((20, []), (21, [((), "form")]), (5000, [((), "form")])):
            e = nested_nots(depth)
            self.assertEqual(at_main((plus("a", e),)), told)
            self.assertEqual(at_main((("if", e, (), (), num(0)),)), told)
            self.assertEqual(at_main((("loop", num(0), (), (), e),)), told)
            self.assertEqual(at_main((("local", "t", e, (), num(0)),)), told)
            self.assertEqual(at_main((("local", "t", num(0), (), e),)), told)
            self.assertEqual(at_main(nested_ifs(19, (plus("a", e),))), told)

    def test_each_part_of_an_expression(self):
        for wrap in (lambda e: ("add", e, num(1)), lambda e: ("shl", num(1), e), lambda e: cell("r", e)):
            self.assertEqual(at_main((plus("a", wrap(nested_nots(19))),)), [])
            self.assertEqual(at_main((plus("a", wrap(nested_nots(20))),)), [((), "form")])

    def test_places(self):
        for words in (("plus",), ("minus",), ("xor",)):
            self.assertEqual(at_main((words + (cell("r", nested_nots(19)), num(0)),)), [])
            self.assertEqual(at_main((words + (cell("r", nested_nots(20)), num(0)),)), [((), "form")])
        for depth, told in ((19, []), (20, [((), "form")])):
            place = cell("r", nested_nots(depth))
            self.assertEqual(at_main((("swap", place, var("a")),)), told)
            self.assertEqual(at_main((("swap", var("a"), place),)), told)

    def test_deep_values_that_are_no_statements(self):
        value = 0
        for _ in range(3000):
            value = (value,)
        self.assertEqual(at_main((value,)), [((0, 0), "statement")])
        self.assertEqual(at_main((plus("a", value),)), [((0, 0), "statement")])
        self.assertEqual(at_main((plus("a", ("int", value)),)), [((0, 0), "statement")])
        self.assertEqual(at_main((), declared=(value,)), [((), "global")])


class Width(unittest.TestCase):
    def test_bounds(self):
        for width in (1, 2, 31, 32):
            self.assertEqual(at_main((), width=width), [])
        for width in (0, 33, -1, 64, 10 ** 30):
            self.assertEqual(at_main((), width=width), [((), "width")])

    def test_other_kinds(self):
        for width in OTHERS:
            if width != 1 or width is True:
                self.assertEqual(at_main((), width=width), [((), "width")], width)

    def test_behind_it_nothing_is_told(self):
        self.assertEqual(faults((0, (5, 5), (5, None))), [((), "width")])
        self.assertEqual(at_main((plus("zz", num(9)), 5), width=False), [((), "width")])


class Globals(unittest.TestCase):
    def test_sizes(self):
        self.assertEqual(at_main((), declared=(("a", 0), ("b", 1), ("c", 256))), [])
        for size in (-1, 257, True, False, None, "1", (), 1.0, [1]):
            self.assertEqual(at_main((), declared=(("a", 0), ("b", size))), [((), "global")], size)

    def test_names(self):
        for name in ("", "A", "if", "q" * 21, "1a", "_a", None, 1, True, ("a",), ["a"]):
            self.assertEqual(at_main((), declared=((name, 0),)), [((), "global")], name)

    def test_twice(self):
        self.assertEqual(at_main((), declared=(("a", 0), ("b", 0), ("a", 0))), [((), "global")])
        self.assertEqual(at_main((plus("a", num(1)),), declared=(("a", 0), ("a", 0), ("a", 0))), [((), "global")])

    def test_other_kinds(self):
        for item in OTHERS + (["a", 0], ("a",), ("a", 0, 0), (0, "a")):
            self.assertEqual(at_main((), declared=(("a", 0), item)), [((), "global")], item)

    def test_the_other_globals_are_seen(self):
        self.assertEqual(at_main((plus("a", cell("r", var("b"))), plus("z", num(1))),
                                 declared=(("a", 0), 5, ("r", 2), ("z", 999), ("b", 0))),
                         [((), "global"), ((0, 1), "unknown")])


class Main(unittest.TestCase):
    def test_none(self):
        self.assertEqual(faults((8, (), ())), [((), "main")])
        self.assertEqual(faults((8, (), (("mains", (), ()), ("p", (), ())))), [((), "main")])

    def test_two(self):
        main = ("main", (), (plus("a", num(1)),))
        self.assertEqual(faults((8, (("a", 0),), (main, main))), [((), "main"), ((1,), "procedure")])
        self.assertEqual(faults((8, (), (("main", (), ()), ("p", (), ()), ("main", (), ()), ("main", (), ())))),
                         [((), "main"), ((2,), "procedure"), ((3,), "procedure")])

    def test_params(self):
        self.assertEqual(faults((8, (), (("main", (("x", 0),), (SKIP,)),))), [((), "main")])
        self.assertEqual(faults((8, (("a", 0),), (("main", (("x", 2),), (plus("a", num(1)),)),))), [((), "main")])

    def test_it_may_stand_anywhere(self):
        self.assertEqual(faults((8, (("a", 0),), (("p", (), ()), ("main", (), (plus("a", num(1)),))))), [])

    def test_a_wrong_row_is_no_main(self):
        self.assertEqual(faults((8, (), (("main", (), 5),))), [((), "main"), ((0,), "procedure")])
        self.assertEqual(faults((8, (), (("main", (5,), ()),))), [((), "main"), ((0,), "procedure")])

    def test_it_alone_sees_the_globals(self):
        self.assertEqual(at_main((plus("a", num(1)),), procedures=(("p", (("x", 0),), (plus("a", var("x")),)),)),
                         [((1, 0), "unknown")])


class Procedures(unittest.TestCase):
    def rows(self, *procedures):
        return at_main((SKIP,), procedures=procedures)

    def test_other_kinds(self):
        for item in OTHERS + (["p", (), ()], ("p", ()), ("p", (), (), ()), ("p",)):
            self.assertEqual(self.rows(PAIR, item), [((2,), "procedure")], item)

    def test_names(self):
        for name in (None, 1, True, "", "P", "proc", "q" * 21, "1", ("p",), ["p"]):
            self.assertEqual(self.rows((name, (), ())), [((1,), "procedure")], name)
        self.assertEqual(self.rows(PAIR, PAIR, PAIR), [((2,), "procedure"), ((3,), "procedure")])

    def test_params(self):
        for params in (None, 1, True, "", [], [("x", 0)], "x", (("x", 0), ("x", 0)), (("x", 0), ("x", 3)), ("x",), (5,),
                       (("x", 257),), (("x", True),), (("X", 0),), (["x", 0],), (("x", 0, 0),), (("x",),)):
            self.assertEqual(self.rows(("p", params, ())), [((1,), "procedure")], params)

    def test_bodies(self):
        for body in (None, 1, False, "", [], [SKIP], {}):
            self.assertEqual(self.rows(("p", (), body)), [((1,), "procedure")], body)

    def test_the_name_of_a_wrong_row_is_unknown(self):
        wrong = ("p", (("x", 0), ("x", 0)), ())
        self.assertEqual(at_main((("call", "p", ("a", "b")), ("uncall", "p", ("a",))), procedures=(wrong,)),
                         [((0, 0), "unknown"), ((0, 1), "unknown"), ((1,), "procedure")])
        self.assertEqual(at_main((("call", "p", ()),), procedures=(("p", (), 5),)),
                         [((0, 0), "unknown"), ((1,), "procedure")])

    def test_of_two_with_one_name_the_first_one_is_known(self):
        first, second = ("p", (("x", 0),), ()), ("p", (("x", 4),), ())
        self.assertEqual(at_main((("call", "p", ("a",)), ("call", "p", ("r",))), procedures=(first, second)),
                         [((0, 1), "size"), ((2,), "procedure")])

    def test_a_wrong_row_leaves_its_name_free(self):
        wrong, right = ("p", (5,), ()), ("p", (), ())
        self.assertEqual(at_main((("call", "p", ()),), procedures=(wrong, right)), [((1,), "procedure")])

    def test_the_body_of_a_wrong_row_sees_no_params(self):
        body = (plus("x", num(1)), SKIP, 5, ("local", "t", num(0), (plus("t", num(1)),), num(0)))
        told = [((1,), "procedure"), ((1, 0), "unknown"), ((1, 2), "statement")]
        self.assertEqual(self.rows(("p", (("x", 0), ("x", 0)), body)), told)
        self.assertEqual(self.rows(("p", (("x", 0), 5), body)), told)
        self.assertEqual(self.rows(("P", (("x", 0),), body)), told)

    def test_true_and_false_are_no_sizes(self):
        self.assertEqual(self.rows(("p", (("x", False),), ())), [((1,), "procedure")])


class StatementForms(unittest.TestCase):
    def wrong(self, statement, **more):
        self.assertEqual(at_main((SKIP, statement), **more), [((0, 1), "statement")], statement)

    def test_other_kinds(self):
        for value in OTHERS:
            if value != ():
                self.wrong(value)
        self.wrong(())
        self.wrong(["skip"])

    def test_words_and_lengths(self):
        for value in (("skips",), ("skip", 0), ("plus",), ("plus", var("a")), ("plus", var("a"), num(1), num(1)),
                      ("add", var("a"), num(1)), ("swap", var("a")), ("swap", var("a"), var("b"), var("b")),
                      ("if", num(1), (), num(1)), ("if", num(1), (), (), num(1), ()), ("loop", num(1), (), ()),
                      ("call", "p"), ("call", "p", (), ()), ("uncall",), ("local", "t", num(0), ()),
                      ("local", "t", num(0), (), (), num(0)), ("while", num(1), ()), (b"skip",), (("skip",),),
                      (None, var("a"), num(1)), (True,), ("PLUS", var("a"), num(1))):
            self.wrong(value)

    def test_places(self):
        for word in ("plus", "minus", "xor"):
            for place in OTHERS + (num(1), ("not", var("a")), ("add", var("a"), var("b")), ("var",), ("var", "A"),
                                   ("var", None), ("var", "a", "b"), ("cell", "r"), ("cell", "r", 1),
                                   ("cell", "R", num(0)), ("cell", "r", num(256)), ["var", "a"], "a"):
                self.wrong((word, place, num(1)))
        for place in (num(1), ("var", "if"), None, ("cell", "r", ("int", True)), [], ("not", var("b"))):
            self.wrong(("swap", place, var("a")))
            self.wrong(("swap", var("a"), place))

    def test_expressions_everywhere(self):
        bad = OTHERS + (("int",), ("int", -1), ("int", 256), ("int", True), ("int", False), ("int", None), ("int", "1"),
                        ("int", 1, 1), ("int", (1,)), ("int", 1.0), ("var", "Q"), ("var", True), ("cell", "r", 0),
                        ("cell", num(0), "r"), ("not",), ("not", 1), ("not", num(1), num(1)), ("add", num(1)),
                        ("add", num(1), num(1), num(1)), ("rem", num(1), num(1)), ("sub", num(1), None),
                        ("sub", None, num(1)), ("shl", num(1), num(300)), ["int", 1], ("plus", var("a"), num(1)),
                        ("not", ("not", ("add", num(1), ("int", 999)))), SKIP)
        for e in bad:
            self.wrong(plus("a", e))
            self.wrong(("xor", cell("r", e), num(0)))
            self.wrong(("if", e, (), (), num(0)))
            self.wrong(("if", num(0), (), (), e))
            self.wrong(("loop", e, (), (), num(0)))
            self.wrong(("loop", num(0), (), (), e))
            self.wrong(("local", "t", e, (), num(0)))
            self.wrong(("local", "t", num(0), (), e))

    def test_words_of_the_width(self):
        for width in (1, 2, 8, 31, 32):
            high = 2 ** width - 1
            self.assertEqual(at_main((plus("a", num(high)), plus("a", num(0))), width=width), [])
            self.wrong(plus("a", num(high + 1)), width=width)
            self.wrong(plus("a", num(-1)), width=width)
            self.wrong(("swap", var("a"), cell("r", num(high + 1))), width=width)

    def test_bodies(self):
        for body in (None, 1, True, "", [], [SKIP], {}, "skip"):
            self.wrong(("if", num(1), body, (), num(1)))
            self.wrong(("if", num(1), (), body, num(1)))
            self.wrong(("loop", num(1), body, (), num(1)))
            self.wrong(("loop", num(1), (), body, num(1)))
            self.wrong(("local", "t", num(1), body, num(1)))

    def test_names(self):
        for name in (None, 1, True, "", "T", "end", "q" * 21, ("t",), ["t"], "1t"):
            self.wrong(("local", name, num(1), (), num(1)))
            self.wrong(("call", name, ()))
            self.wrong(("uncall", name, ()))
            self.wrong(("call", "pair", ("a", name)), procedures=(PAIR,))
        for names in (None, 1, "a", "", ["a"], [], {}, True):
            self.wrong(("call", "pair", names), procedures=(PAIR,))
            self.wrong(("uncall", "pair", names), procedures=(PAIR,))

    def test_nothing_else_is_told_of_it_or_within_it(self):
        self.wrong(("plus", var("zz"), ("add", var("zz"), num(256))))
        self.wrong(("swap", var("zz"), num(1)))
        self.wrong(("call", "nobody", ("zz", "zz", 5)))
        self.wrong(("if", num(999), (plus("zz", num(1)), 5), (("call", "main", ()),), num(1)))
        self.wrong(("loop", num(1), (plus("zz", num(1)), 5), [], num(1)))
        self.wrong(("local", "a", var("a"), (plus("zz", num(1)), 5), ("int", None)))

    def test_what_stands_around_it_is_told(self):
        body = (("if", var("zz"), (5, plus("a", num(1))), (plus("zz", num(1)), None), num(1)), 7)
        self.assertEqual(at_main(body), [
            ((0, 0), "unknown"), ((0, 0, 0, 0), "statement"), ((0, 0, 1, 0), "unknown"), ((0, 0, 1, 1), "statement"),
            ((0, 1), "statement"),
        ])


class Unknown(unittest.TestCase):
    def told(self, statement, **more):
        self.assertEqual(at_main((statement,), **more), [((0, 0), "unknown")], statement)

    def test_names_in_every_place(self):
        for statement in (
                plus("zz", num(1)), minus("a", var("zz")), xor("a", cell("zz", num(0))),
                ("plus", cell("zz", num(0)), num(1)), ("plus", cell("r", var("zz")), num(1)),
                plus("a", ("not", ("add", num(1), cell("r", var("zz"))))),
                ("swap", var("zz"), var("a")), ("swap", var("a"), var("zz")), ("swap", var("a"), cell("r", var("zz"))),
                ("if", var("zz"), (), (), num(0)), ("if", num(0), (), (), var("zz")),
                ("loop", var("zz"), (), (), num(0)), ("loop", num(0), (), (), var("zz")),
                ("local", "t", var("zz"), (), num(0)), ("local", "t", num(0), (), var("zz"))):
            self.told(statement)

    def test_calls(self):
        self.told(("call", "nobody", ()))
        self.told(("uncall", "nobody", ("a", "b")))
        self.told(("call", "main", ()))
        self.told(("uncall", "main", ()))
        self.told(("call", "main", ("a",)))
        self.told(("call", "own", ("zz",)), procedures=(SELF,))
        self.told(("uncall", "own", ("zz",)), procedures=(SELF,))
        self.told(("call", "a", ()))

    def test_main_is_not_called_from_elsewhere(self):
        self.assertEqual(at_main((), procedures=(("p", (), (("call", "main", ()), ("uncall", "main", ()))),)),
                         [((1, 0), "unknown"), ((1, 1), "unknown")])

    def test_a_local_is_seen_in_its_body_only(self):
        body = (("local", "t", num(0), (plus("t", num(1)), ("if", var("t"), (xor("a", var("t")),), (), num(1))), num(0)),
                plus("t", num(1)))
        self.assertEqual(at_main(body), [((0, 1), "unknown")])

    def test_params_are_seen_in_their_procedure_only(self):
        self.assertEqual(at_main((plus("x", num(1)),), procedures=(PAIR, ("p", (), (plus("x", num(1)),)))),
                         [((0, 0), "unknown"), ((2, 0), "unknown")])

    def test_a_procedure_is_no_variable(self):
        self.told(plus("pair", num(1)), procedures=(PAIR,))


class Size(unittest.TestCase):
    def told(self, statement, **more):
        self.assertEqual(at_main((statement,), **more), [((0, 0), "size")], statement)

    def test_names(self):
        for statement in (
                plus("r", num(1)), plus("a", var("r")), plus("b", cell("a", num(0))), ("xor", cell("a", num(0)), num(1)),
                ("swap", var("r"), var("a")), ("swap", var("a"), cell("b", num(1))), plus("a", ("not", var("r"))),
                plus("a", cell("r", cell("b", num(0)))), ("if", var("r"), (), (), num(0)),
                ("loop", num(0), (), (), cell("a", num(0))), ("local", "t", var("r"), (), num(0)),
                ("local", "t", num(0), (), cell("a", num(0)))):
            self.told(statement)

    def test_an_array_of_one_cell_is_no_variable(self):
        self.told(plus("one", num(1)), declared=(("one", 1),))
        self.told(("call", "own", ("one",)), declared=(("one", 1),), procedures=(SELF,))

    def test_a_local_is_a_variable(self):
        self.assertEqual(at_main((("local", "t", num(0), (("plus", cell("t", num(0)), num(1)),), num(0)),)),
                         [((0, 0, 0, 0), "size")])

    def test_calls(self):
        for names in ((), ("a",), ("m",), ("m", "a"), ("a", "r"), ("a", "b"), ("a", "m", "b")):
            for word in ("call", "uncall"):
                self.told((word, "pair", names), declared=(("a", 0), ("b", 0), ("r", 4), ("m", 3)), procedures=(PAIR,))
        self.told(("call", "none", ("a",)), procedures=(("none", (), ()),))

    def test_params(self):
        procedure = ("p", (("x", 0), ("m", 3)), (plus("x", var("m")), ("plus", cell("x", num(0)), num(1))))
        self.assertEqual(at_main((), procedures=(procedure,)), [((1, 0), "size"), ((1, 1), "size")])


class Alias(unittest.TestCase):
    def told(self, statement, **more):
        self.assertEqual(at_main((statement,), **more), [((0, 0), "alias")], statement)

    def test_changes(self):
        for word in ("plus", "minus", "xor"):
            self.told((word, var("a"), var("a")))
            self.told((word, var("a"), ("add", num(1), ("not", cell("r", var("a"))))))
            self.told((word, cell("r", var("a")), cell("r", var("b"))))
            self.told((word, cell("r", cell("r", num(0))), num(1)))
            self.told((word, cell("r", num(1)), ("mul", var("a"), cell("r", num(0)))))

    def test_the_index_may_stand_in_the_expression(self):
        self.assertEqual(at_main((("plus", cell("r", var("a")), var("a")),)), [])

    def test_swaps(self):
        self.told(("swap", var("a"), var("a")))
        self.told(("swap", cell("r", num(0)), cell("r", num(1))))
        self.told(("swap", cell("r", var("a")), var("a")))
        self.told(("swap", var("a"), cell("r", var("a"))))
        self.told(("swap", cell("r", cell("r", num(0))), var("a")))
        self.told(("swap", var("a"), cell("r", ("not", cell("r", num(0))))))
        two = (("a", 0), ("b", 0), ("r", 4), ("s", 4))
        self.told(("swap", cell("r", cell("s", num(0))), cell("s", num(0))), declared=two)
        self.told(("swap", cell("r", num(0)), cell("s", cell("r", num(0)))), declared=two)
        self.assertEqual(at_main((("swap", cell("r", var("a")), cell("s", var("a"))),), declared=two), [])
        self.assertEqual(at_main((("swap", cell("r", var("a")), cell("s", var("b"))),), declared=two), [])

    def test_calls(self):
        two = ("two", (("x", 0), ("y", 0)), ())
        self.told(("call", "two", ("a", "a")), procedures=(two,))
        self.told(("uncall", "two", ("b", "b")), procedures=(two,))

    def test_locals(self):
        seen_too = [((0, 0), "alias"), ((0, 0), "unknown")]
        self.assertEqual(at_main((("local", "t", var("t"), (), num(0)),)), seen_too)
        self.assertEqual(at_main((("local", "t", num(0), (), ("add", num(1), var("t"))),)), seen_too)
        self.assertEqual(at_main((("local", "t", num(0), (), cell("r", var("t"))),)), seen_too)
        self.assertEqual(at_main((("local", "a", var("a"), (), num(0)),)), [((0, 0), "alias"), ((0, 0), "hides")])


class Hides(unittest.TestCase):
    def test_each_kind_of_name(self):
        self.assertEqual(at_main((("local", "a", num(0), (), num(0)),)), [((0, 0), "hides")])
        self.assertEqual(at_main((("local", "r", num(0), (), num(0)),)), [((0, 0), "hides")])
        self.assertEqual(at_main((("local", "t", num(0), (("local", "t", num(0), (), num(0)),), num(0)),)),
                         [((0, 0, 0, 0), "hides")])
        self.assertEqual(at_main((), procedures=(("p", (("x", 0),), (("local", "x", num(0), (), num(0)),)),)),
                         [((1, 0), "hides")])


class Together(unittest.TestCase):
    def test_several_at_one_statement(self):
        self.assertEqual(at_main((plus("r", ("add", var("r"), var("zz"))),)),
                         [((0, 0), "alias"), ((0, 0), "size"), ((0, 0), "unknown")])
        self.assertEqual(at_main((("call", "pair", ("zz", "zz")),), procedures=(PAIR,)),
                         [((0, 0), "alias"), ((0, 0), "unknown")])
        self.assertEqual(at_main((("call", "pair", ("r", "r", "zz")),), procedures=(PAIR,)),
                         [((0, 0), "alias"), ((0, 0), "size"), ((0, 0), "unknown")])
        self.assertEqual(at_main((("call", "pair", ("zz", "a")),), procedures=(PAIR,)),
                         [((0, 0), "size"), ((0, 0), "unknown")])
        self.assertEqual(at_main((("call", "nobody", ("a", "a", "zz")),)), [((0, 0), "alias"), ((0, 0), "unknown")])
        self.assertEqual(at_main((("local", "a", ("add", var("a"), var("r")), (), var("zz")),)),
                         [((0, 0), "alias"), ((0, 0), "hides"), ((0, 0), "size"), ((0, 0), "unknown")])

    def test_no_duplicates(self):
        self.assertEqual(at_main((plus("zz", ("add", var("yy"), ("mul", var("xx"), cell("r", var("zz"))))),)),
                         [((0, 0), "alias"), ((0, 0), "unknown")])
        self.assertEqual(at_main((), declared=(5, 5, 5)), [((), "global")])

    def test_the_whole_list_ascends(self):
        made = (4, (("a", 0), 5), (
            ("p", (("x", 0),), (plus("x", num(16)), plus("x", var("x")))),
            7,
            ("q", (), (("if", num(0), (plus("y", num(0)),), (("call", "q", ("y",)), 3), num(15)),)),
        ))
        self.assertEqual(faults(made), [
            ((), "global"), ((), "main"),
            ((0, 0), "statement"), ((0, 1), "alias"),
            ((1,), "procedure"),
            ((2, 0, 0, 0), "unknown"), ((2, 0, 1, 0), "size"), ((2, 0, 1, 0), "unknown"), ((2, 0, 1, 1), "statement"),
        ])

    def test_ten_and_two_ascend_by_size(self):
        told = at_main(tuple(plus("zz", num(0)) for _ in range(12)))
        self.assertEqual(told, [((0, k), "unknown") for k in range(12)])
        self.assertIs(type(told), list)

    def test_bounds_are_no_faults(self):
        many = tuple(("g%d" % k, 1) for k in range(64))
        procedures = tuple(("p%d" % k, (), ()) for k in range(63))
        self.assertEqual(at_main((SKIP,) * 5000, declared=many, procedures=procedures), [])

    def test_nothing_is_changed(self):
        for made in ([8, [], []], program((plus("a", num(1)), [1, [2]], 5)), (8, (["a", 0],), (["main", (), [SKIP]],))):
            before = copy.deepcopy(made)
            faults(made)
            self.assertEqual(made, before)
