import copy
import itertools
import unittest

from backrun.plain import plain_faults, run_plain
from tests.plain_samples import A, B, C, PlainMaker, by_the_words, cell_free_ops, nested_ifs, put
from tests.samples import cell, nested_nots, num, var

OTHERS = (None, True, False, 0, 1, -1, 10 ** 20, "", "a", "set", b"", (), [], {}, 1.5, (None,), (1, 2, 3), [0, ()], ((), ()))

RIGHT = (8, ("a", "b", "c"), ("a", "b"), ("b", "c"), (
    ("set", "c", ("add", A, num(255))),
    ("if", ("less", A, B), (("set", "a", B),), ()),
    ("while", A, (("set", "a", ("sub", A, num(1))), ("if", B, (), (("set", "b", ("not", A)),)))),
))


class Faults(unittest.TestCase):
    def look_at(self, value, want):
        before = copy.deepcopy(value)
        found = plain_faults(value)
        self.assertEqual(found, want, value)
        self.assertIs(type(found), list)
        self.assertEqual(value, before)

    def changed(self, want, **parts):
        """Look at the right program with other parts."""
        words = ("width", "names", "inputs", "outputs", "body")
        self.look_at(tuple(parts.get(word, part) for word, part in zip(words, RIGHT)), want)

    def test_none(self):
        self.look_at(RIGHT, [])
        self.look_at((1, (), (), (), ()), [])
        self.look_at((32, ("a",), ("a",), ("a",), ()), [])
        for seed in range(100):
            self.look_at(PlainMaker(seed).program(), [])

    def test_form(self):
        for value in OTHERS + (list(RIGHT), RIGHT[:4], RIGHT + ((),), ((),) + RIGHT, (8, (), (), ()), "abcde", (8, "a", "b", "c", "d")):
            self.look_at(value, ["form"])
        for value in (None, True, False, 0, "", "a", [], ["a"], {}, 1.5, b"a", {"a": 1}):
            for word in ("names", "inputs", "outputs", "body"):
                self.changed(["form"], **{word: value})

    def test_form_alone(self):
        # nothing else is told, whatever else is wrong
        self.look_at((0, ("A",), ("z",), ["z"], (5,)), ["form"])
        self.look_at((99, None, ("z",), ("z",), (5,)), ["form"])

    def test_a_width_that_is_no_integer(self):
        for value in (None, True, False, "8", "", (), (8,), [8], 8.0, {}):
            self.changed(["form"], width=value)

    def test_width(self):
        for width in (0, -1, 33, 64, 10 ** 30, -8):
            self.look_at((width, (), (), (), ()), ["width"])
            self.changed(["width"], width=width)
        for width in range(1, 33):
            self.look_at((width, ("a",), (), (), (put("a", num(2 ** width - 1)),)), [])
            self.look_at((width, ("a",), (), (), (put("a", num(2 ** width)),)), ["statement"])

    def test_name(self):
        for name in (None, True, 5, "", "A", "aB", "1a", "_a", "a b", "a-b", (), ("a",), ["a"], "if", "skip", "width", "in", b"a",
                     "abcdefghijkl", "a" * 20, "back", "backa", "back_in", "back1"):
            self.changed(["name"], names=RIGHT[1] + (name,))
            self.changed(["name"], names=(name,) + RIGHT[1])
        for name in ("abcdefghijk", "a1234567890", "z", "bac", "aback", "b_ack", "bakc", "x_", "set", "while", "bac_k"):
            self.changed([], names=RIGHT[1] + (name,))

    def test_a_name_twice(self):
        self.changed(["name"], names=("a", "b", "c", "a"))
        self.changed(["name"], names=("a", "b", "b", "c"))

    def test_long_names_in_use(self):
        for name, want in (("abcdefghijk", []), ("abcdefghijkl", ["name"]), ("back_a", ["name"])):
            self.look_at((8, (name,), (name,), (name,), (put(name, var(name)),)), want)

    def test_inputs_and_outputs(self):
        for word, code in (("inputs", "input"), ("outputs", "output")):
            for value in ((), ("a",), ("c", "a"), ("c", "b", "a")):
                self.changed([], **{word: value})
            for value in (("d",), ("a", "d"), ("a", "a"), ("a", "b", "a"), (None,), (True,), (0,), (("a",),), (["a"],), ("",),
                          ("a", 1.5), ("A",)):
                self.changed([code], **{word: value})

    def test_inputs_that_are_outputs(self):
        self.look_at((8, ("a",), ("a",), ("a",), ()), [])

    def statement(self, *values):
        """Look at values that are no statements, at every place of a body."""
        for value in values:
            self.changed(["statement"], body=(value,))
            self.changed(["statement"], body=RIGHT[4] + (value,))
            self.changed(["statement"], body=(value,) + RIGHT[4])
            for outer in (("if", A, (value,), ()), ("if", A, (), (put("a", A), value)), ("while", A, (value,)),
                          ("while", A, (("if", A, (), (value,)),))):
                self.changed(["statement"], body=(outer,))

    def test_items_that_are_no_statements(self):
        self.statement(*OTHERS)
        self.statement(
            ("set",), ("set", "a"), ("set", "a", A, A), ["set", "a", A], ("Set", "a", A), ("plus", A, A), ("skip",),
            ("if", A, ()), ("if", A, (), (), A), ("while", A), ("while", A, (), ()), (b"set", "a", A), (["set"], "a", A),
            ("swap", A, B), ("local", "a", A, (), A), ("loop", A, (), (), A), ("call", "a", ()),
        )

    def test_parts_of_other_kinds(self):
        for value in OTHERS:
            self.statement(("set", value, A) if value != "a" else ("set", "z", A), ("set", "a", value))
            self.statement(("if", value, (), ()), ("while", value, ()))
            if not isinstance(value, tuple):
                self.statement(("if", A, value, ()), ("if", A, (), value), ("while", A, value))

    def test_names_in_statements(self):
        self.statement(put("d", A), put("A", A), put("", A), put("a", var("d")), ("if", var("d"), (), ()), ("while", var("d"), ()))
        for name in (None, 0, True, ("a",), ["a"], "A", "if"):
            self.statement(put(name, A), put("a", ("var", name)))

    def expression(self, *values):
        for value in values:
            self.statement(put("a", value), ("if", value, (), ()), ("while", value, ()))
            self.statement(put("a", ("not", value)), put("a", ("add", value, A)), put("a", ("shr", ("mul", A, value), num(0))))

    def test_expressions_that_are_none(self):
        self.expression(
            ("int", 256), ("int", -1), ("int", True), ("int", False), ("int", None), ("int", "1"), ("int", 1.0), ("int",), ("int", 1, 1),
            ("var",), ("var", "a", "b"), ["var", "a"], ("not",), ("not", A, A), ("add", A), ("add", A, A, A), ("rem", A, A),
            ("neg", A), ("Add", A, A), ("not", ["int", 1]), ("add", A, None), ("int", (1,)), "a", 5,
        )

    def test_cells(self):
        self.expression(cell("a", num(0)), cell("a", A), cell("d", num(0)))

    def test_names_that_are_not_there(self):
        self.expression(var("d"), ("add", A, var("z")), ("not", var("a1")))

    def test_each_op(self):
        for op in cell_free_ops():
            self.changed([], body=(put("a", (op, A, num(3))), ("if", (op, B, ("not", A)), (), ()), ("while", (op, A, A), ())))

    def test_several_together(self):
        codes = {"width": 0, "names": ("a", "b", "c", "A"), "inputs": ("z",), "outputs": ("z", "z"), "body": (None,)}
        told = {"width": "width", "names": "name", "inputs": "input", "outputs": "output", "body": "statement"}
        for many in range(6):
            for chosen in itertools.combinations(sorted(codes), many):
                self.changed(sorted(told[word] for word in chosen), **{word: codes[word] for word in chosen})
        self.changed(["input", "name", "output", "statement", "width"], **codes)

    def test_each_code_once(self):
        self.changed(["statement"], body=(None, None, put("a", None)))
        self.changed(["name"], names=("a", "b", "c", "A", "B", "c"))
        self.changed(["input"], inputs=("x", "y", "x"))

    def test_deep_ones(self):
        self.changed([], body=nested_ifs(20, (put("a", nested_nots(20)),)))
        deep = None
        for _ in range(150):
            deep = (deep,)
        self.statement(deep)
        self.changed(["name"], names=RIGHT[1] + (deep,))
        deep = A
        for _ in range(150):
            deep = ("not", deep)
        self.statement(put("a", ("not", ("add", deep, None))))


class Runs(unittest.TestCase):
    def run_of(self, program, values, fuel=10 ** 6):
        """What the run gives, when it has been looked at."""
        self.assertEqual(plain_faults(program), [])
        before = copy.deepcopy((program, values))
        found = run_plain(program, values, fuel=fuel)
        self.assertEqual((program, values), before)
        self.assertIs(type(found), tuple)
        self.assertIs(type(found[0]), tuple)
        self.assertEqual(found, by_the_words(program, values, fuel))
        return found

    def body(self, *body, width=8, values=(0, 0), fuel=10 ** 6):
        """The run of a body with the inputs a and b, and the outputs a, b and c."""
        return self.run_of((width, ("a", "b", "c"), ("a", "b"), ("a", "b", "c"), body), values, fuel)

    def test_nothing(self):
        self.assertEqual(self.body(values=(3, 4)), ((3, 4, 0), ("done",), 0, 0))
        self.assertEqual(self.body(fuel=0), ((0, 0, 0), ("done",), 0, 0))
        self.assertEqual(self.run_of((8, (), (), (), ()), ()), ((), ("done",), 0, 0))

    def test_set(self):
        self.assertEqual(self.body(put("c", num(7))), ((0, 0, 7), ("done",), 1, 1))
        self.assertEqual(self.body(put("a", ("add", A, A)), values=(200, 1)), ((144, 1, 0), ("done",), 1, 1))
        self.assertEqual(self.body(put("a", B), put("b", A), values=(1, 2)), ((2, 2, 0), ("done",), 2, 2))

    def test_each_op(self):
        for op in cell_free_ops():
            for values in ((0, 0), (5, 3), (3, 5), (7, 7), (15, 2), (9, 15)):
                self.body(put("c", (op, A, B)), put("b", ("not", (op, B, num(3)))), width=4, values=values)

    def test_if(self):
        statement = ("if", A, (put("c", num(1)),), (put("c", num(2)), put("b", num(3))))
        self.assertEqual(self.body(statement, values=(9, 0)), ((9, 0, 1), ("done",), 2, 2))
        self.assertEqual(self.body(statement, values=(0, 0)), ((0, 3, 2), ("done",), 3, 3))
        self.assertEqual(self.body(("if", A, (), ()), ("if", num(1), (), ())), ((0, 0, 0), ("done",), 2, 2))
        # the expression is looked at once, though the body changes what it mentions
        self.assertEqual(self.body(("if", A, (put("a", num(0)),), (put("b", num(9)),)), values=(1, 0)),
                         ((0, 0, 0), ("done",), 2, 2))

    def test_while(self):
        less = put("a", ("sub", A, num(1)))
        # one step for its beginning, and for each turn the set and the look behind it
        for count in range(6):
            self.assertEqual(self.body(("while", A, (less,)), values=(count, 0)),
                             ((0, 0, 0), ("done",), 1 + 2 * count, 1 + count))
        self.assertEqual(self.body(("while", A, ()), values=(0, 0)), ((0, 0, 0), ("done",), 1, 1))
        self.assertEqual(self.body(("while", num(0), (less,)), put("b", num(1))), ((0, 1, 0), ("done",), 2, 2))

    def test_nested(self):
        inner = ("while", B, (put("b", ("sub", B, num(1))), put("c", ("add", C, num(1)))))
        outer = ("while", A, (put("b", A), inner, put("a", ("sub", A, num(1)))))
        # 3 turns: b goes down from 3, 2 and 1
        self.assertEqual(self.body(outer, values=(3, 0)), ((0, 0, 6), ("done",), 1 + 3 * (1 + 1 + 1 + 1) + 6 * 3, 1 + 3 * 3 + 6 * 2))
        self.body(("if", A, (outer, ("if", B, (outer,), (put("c", num(1)),))), (inner,)), values=(4, 2))

    def test_no_end(self):
        program = (8, ("a",), ("a",), ("a",), (("while", num(1), (put("a", ("add", A, num(1))),)),))
        for fuel in range(20):
            self.assertEqual(self.run_of(program, (0,), fuel), ((fuel // 2,), ("none",), fuel, fuel // 2))
        self.assertEqual(self.run_of((8, (), (), (), (("while", num(1), ()),)), (), 50), ((), ("none",), 50, 0))

    def test_fuel(self):
        body = (put("c", num(1)), ("if", A, (put("c", num(2)),), ()), ("while", A, (put("a", num(0)),)))
        outs = [(7, 0, 0), (7, 0, 1), (7, 0, 1), (7, 0, 2), (7, 0, 2), (0, 0, 2)]
        marks = [0, 1, 1, 3, 3, 4]
        for fuel in range(6):
            self.assertEqual(self.body(*body, values=(7, 0), fuel=fuel), (outs[fuel], ("none",), fuel, marks[fuel]))
        for fuel in (6, 7, 1000):
            self.assertEqual(self.body(*body, values=(7, 0), fuel=fuel), ((0, 0, 2), ("done",), 6, 5))

    def test_all_fuel(self):
        for seed in range(60):
            maker = PlainMaker(seed)
            program = maker.program()
            values = maker.values(program)
            steps = run_plain(program, values, fuel=150)[2]
            for fuel in range(steps + 2):
                self.run_of(program, values, fuel)

    def test_random_ones(self):
        ends = {("done",): 0, ("none",): 0}
        for seed in range(600):
            maker = PlainMaker(seed)
            program = maker.program()
            for _ in range(3):
                ends[self.run_of(program, maker.values(program), 400)[1]] += 1
        self.assertGreater(min(ends.values()), 100)

    def test_outputs_in_their_order(self):
        program = (8, ("a", "b"), ("b", "a"), ("b", "a"), ())
        self.assertEqual(self.run_of(program, (1, 2)), ((1, 2), ("done",), 0, 0))
        program = (8, ("a", "b"), ("b",), ("a",), (put("a", ("add", B, num(1))),))
        self.assertEqual(self.run_of(program, (1,)), ((2,), ("done",), 1, 1))

    def test_deep_nesting(self):
        body = nested_ifs(19, (put("c", nested_nots(20)),))
        self.assertEqual(self.body(*body)[1:], (("done",), 20, 20))
        body = (put("a", num(0)),)
        for _ in range(19):
            body = (("while", A, body),)
        self.assertEqual(self.body(*body, values=(1, 0)), ((0, 0, 0), ("done",), 1 + 19 + 19, 20))
