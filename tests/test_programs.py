import copy
import inspect
import unittest

from backrun.programs import find_statement, is_name, mentions, statements
from tests.samples import FIBONACCI, SKIP, Maker, cell, nested_ifs, num, plus, program, var

NO_NAMES = ("width vars proc end if then else fi from do loop until call uncall local in delocal skip").split()


class Names(unittest.TestCase):
    def test_lengths(self):
        self.assertFalse(is_name(""))
        for length in range(1, 21):
            self.assertIs(is_name("q" * length), True)
            self.assertIs(is_name("q" + "7" * (length - 1)), True)
        self.assertIs(is_name("q" * 21), False)
        self.assertIs(is_name("q" * 400), False)

    def test_the_first_sign(self):
        for sign in "abcdefghijklmnopqrstuvwxyz":
            self.assertTrue(is_name(sign))
            self.assertTrue(is_name(sign + "_0z"))
        for sign in "0123456789_AZ -.#\n\u00e4\u0430\u0661":
            self.assertFalse(is_name(sign))
            self.assertFalse(is_name(sign + "ab"))

    def test_the_other_signs(self):
        self.assertTrue(is_name("a_b9z_0"))
        for sign in " ABZ-.,:[]()!#\n\t\u00e4\u00df\u0431\u00b2\u0663`{@/":
            self.assertFalse(is_name("a" + sign))
            self.assertFalse(is_name("ab" + sign + "c"))

    def test_words_that_are_no_names(self):
        self.assertEqual(len(NO_NAMES), 18)
        for word in NO_NAMES:
            self.assertIs(is_name(word), False)
            self.assertIs(is_name(word + "s"), True)
            self.assertIs(is_name("a" + word), True)
        for word in ("main", "int", "var", "cell", "not", "add", "plus", "swap", "x"):
            self.assertTrue(is_name(word))

    def test_values_that_are_no_strings(self):
        for value in (None, True, False, 0, 1, -1, (), ("a",), [], ["a"], b"a", {}, {"a": 1}, 1.5):
            self.assertIs(is_name(value), False)


class Mentions(unittest.TestCase):
    def test_each_kind(self):
        self.assertEqual(mentions(num(3)), ())
        self.assertEqual(mentions(var("x")), ("x",))
        self.assertEqual(mentions(cell("r", num(0))), ("r",))
        self.assertEqual(mentions(cell("r", var("a"))), ("a", "r"))
        self.assertEqual(mentions(("not", var("x"))), ("x",))
        for op in ("add", "sub", "mul", "and", "or", "xor", "less", "equal", "shl", "shr"):
            self.assertEqual(mentions((op, var("z"), var("b"))), ("b", "z"))

    def test_indices_and_doubles(self):
        e = ("add", cell("r", cell("q", ("mul", var("z"), var("a")))), ("not", ("sub", var("a"), var("r2"))))
        self.assertEqual(mentions(e), ("a", "q", "r", "r2", "z"))
        self.assertEqual(mentions(("add", var("x"), var("x"))), ("x",))
        self.assertEqual(mentions(cell("x", var("x"))), ("x",))

    def test_order(self):
        e = num(0)
        for name in ("z", "a10", "a2", "a", "a_", "b"):
            e = ("xor", e, var(name))
        self.assertEqual(mentions(e), ("a", "a10", "a2", "a_", "b", "z"))

    def test_names_of_forms(self):
        self.assertEqual(mentions(("add", var("int"), cell("var", var("cell")))), ("cell", "int", "var"))


DEEP = program((
    SKIP,
    ("if", var("a"),
     (plus("b", num(1)), ("loop", num(1), (SKIP, ("local", "t", num(0), (plus("t", num(0)),), num(0))), (SKIP,), num(1))),
     (("if", num(0), (), (SKIP, plus("b", num(2))), num(0)),),
     var("a")),
    plus("a", num(7)),
), procedures=(("p", (("x", 0),), (("local", "u", num(0), (SKIP, ("uncall", "p", ("u",))), num(0)),)),))

DEEP_PATHS = [
    (0, 0),
    (0, 1),
    (0, 1, 0, 0),
    (0, 1, 0, 1),
    (0, 1, 0, 1, 0, 0),
    (0, 1, 0, 1, 0, 1),
    (0, 1, 0, 1, 0, 1, 0, 0),
    (0, 1, 0, 1, 1, 0),
    (0, 1, 1, 0),
    (0, 1, 1, 0, 1, 0),
    (0, 1, 1, 0, 1, 1),
    (0, 2),
    (1, 0),
    (1, 0, 0, 0),
    (1, 0, 0, 1),
]


class Statements(unittest.TestCase):
    def test_paths(self):
        rows = list(statements(DEEP))
        self.assertEqual([path for path, _ in rows], DEEP_PATHS)
        self.assertEqual(dict(rows)[(0, 1, 0, 1, 0, 1, 0, 0)], plus("t", num(0)))
        self.assertEqual(dict(rows)[(0, 1, 1, 0, 1, 1)], plus("b", num(2)))
        self.assertEqual(dict(rows)[(0, 2)], plus("a", num(7)))
        self.assertEqual(dict(rows)[(1, 0, 0, 1)], ("uncall", "p", ("u",)))
        self.assertTrue(all(type(row) is tuple and len(row) == 2 for row in rows))

    def test_it_is_a_generator(self):
        self.assertTrue(inspect.isgenerator(statements(DEEP)))

    def test_nothing(self):
        self.assertEqual(list(statements(program(()))), [])

    def test_twenty_deep(self):
        rows = list(statements(program(nested_ifs(19, (SKIP,)))))
        self.assertEqual(len(rows), 20)
        self.assertEqual(rows[-1], ((0, 0) + (0, 0) * 19, SKIP))

    def test_random_programs_ascend(self):
        for seed in range(60):
            made = Maker(seed).program()
            rows = list(statements(made))
            paths = [path for path, _ in rows]
            self.assertEqual(paths, sorted(set(paths)))
            for path, statement in rows:
                self.assertEqual(find_statement(made, path), statement)

    def test_nothing_is_changed(self):
        before = copy.deepcopy(DEEP)
        list(statements(DEEP))
        self.assertEqual(DEEP, before)


class FindStatement(unittest.TestCase):
    def test_found(self):
        for path, statement in statements(DEEP):
            self.assertEqual(find_statement(DEEP, path), statement)
        self.assertEqual(find_statement(FIBONACCI, (1, 0, 1, 3)), ("swap", var("x"), var("y")))

    def test_not_there(self):
        for path in ((), (0,), (1,), (2, 0), (0, 3), (-1, 0), (0, -1), (0, 0, 0, 0), (0, 1, 0), (0, 1, 2, 0),
                     (0, 1, 1, 1), (0, 1, -1, 0), (1, 0, 1, 0), (1, 0, 0, 2), (0, 1, 0, 1, 0, 1, 1, 0)):
            self.assertIsNone(find_statement(DEEP, path), path)
