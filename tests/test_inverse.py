import copy
import unittest

from backrun.inverse import inverse, inverse_body, inverse_statement
from backrun.run import run
from tests.samples import COUNTING, FIBONACCI, SKIP, TURNING, Maker, cell, minus, num, plus, program, var, xor

INDEXED = cell("r", var("a"))


class InverseStatements(unittest.TestCase):
    def test_simple_ones(self):
        self.assertEqual(inverse_statement(plus("a", var("b"))), minus("a", var("b")))
        self.assertEqual(inverse_statement(minus("a", var("b"))), plus("a", var("b")))
        self.assertEqual(inverse_statement(("plus", INDEXED, num(3))), ("minus", INDEXED, num(3)))
        self.assertEqual(inverse_statement(xor("a", num(1))), xor("a", num(1)))
        self.assertEqual(inverse_statement(("swap", var("b"), INDEXED)), ("swap", var("b"), INDEXED))
        self.assertEqual(inverse_statement(SKIP), SKIP)

    def test_calls(self):
        self.assertEqual(inverse_statement(("call", "p", ("a", "b"))), ("uncall", "p", ("a", "b")))
        self.assertEqual(inverse_statement(("uncall", "p", ())), ("call", "p", ()))

    def test_those_with_bodies(self):
        first, second = (plus("a", num(1)), SKIP), (minus("b", num(2)), xor("b", num(3)))
        one, two = (SKIP, minus("a", num(1))), (xor("b", num(3)), plus("b", num(2)))
        self.assertEqual(inverse_statement(("if", var("a"), first, second, var("b"))),
                         ("if", var("b"), one, two, var("a")))
        self.assertEqual(inverse_statement(("loop", var("a"), first, second, var("b"))),
                         ("loop", var("b"), one, two, var("a")))
        self.assertEqual(inverse_statement(("local", "t", num(1), first, num(2))),
                         ("local", "t", num(2), one, num(1)))

    def test_nested(self):
        inner = ("if", num(0), (plus("a", num(1)), ("call", "p", ("a",))), (), num(1))
        outer = ("loop", num(2), (SKIP, ("local", "t", num(3), (inner, plus("b", num(5))), num(4))), (), num(6))
        turned = ("if", num(1), (("uncall", "p", ("a",)), minus("a", num(1))), (), num(0))
        self.assertEqual(
            inverse_statement(outer),
            ("loop", num(6), (("local", "t", num(4), (minus("b", num(5)), turned), num(3)), SKIP), (), num(2)))

    def test_bodies(self):
        self.assertEqual(inverse_body(()), ())
        body = (plus("a", num(1)), SKIP, ("swap", var("a"), var("b")))
        self.assertEqual(inverse_body(body), (("swap", var("a"), var("b")), SKIP, minus("a", num(1))))
        self.assertIs(type(inverse_body(body)), tuple)


class InversePrograms(unittest.TestCase):
    def test_only_main_is_turned(self):
        other = ("p", (("x", 0),), (plus("x", num(1)), SKIP))
        made = program((plus("a", num(1)), ("call", "p", ("a",))), procedures=(other,))
        self.assertEqual(inverse(made), program((("uncall", "p", ("a",)), minus("a", num(1))), procedures=(other,)))

    def test_main_may_stand_anywhere(self):
        made = (8, (("a", 0),), (("p", (), (plus("z", num(1)),)), ("main", (), (plus("a", num(1)),))))
        self.assertEqual(inverse(made), (8, (("a", 0),), (made[2][0], ("main", (), (minus("a", num(1)),)))))

    def test_twice(self):
        for made in (FIBONACCI, COUNTING, TURNING):
            self.assertEqual(inverse(inverse(made)), made)
            self.assertNotEqual(inverse(made), made)
        for seed in range(100):
            made = Maker(seed).program()
            before = copy.deepcopy(made)
            self.assertEqual(inverse(inverse(made)), made)
            self.assertEqual(made, before)

    def test_its_run_is_the_run_backward(self):
        for seed in range(250):
            maker = Maker(seed)
            made = maker.program()
            turned = inverse(made)
            for fuel in (0, 3, 200):
                store = maker.store(made)
                one = run(turned, store, fuel=fuel)
                two = run(made, store, fuel=fuel, backward=True)
                self.assertEqual((one[0], one[1][:2], one[2]), (two[0], two[1][:2], two[2]))
                one = run(turned, store, fuel=fuel, backward=True)
                two = run(made, store, fuel=fuel)
                self.assertEqual((one[0], one[1][:2], one[2]), (two[0], two[1][:2], two[2]))

    def test_the_path_of_a_fail_is_that_in_the_inverse(self):
        made = program((plus("a", num(1)), ("if", num(1), (), (), num(0)), SKIP, SKIP))
        store = (("a", 0), ("b", 0), ("r", (0, 0, 0, 0)))
        self.assertEqual(run(made, store, fuel=9, backward=True)[1], ("fail", "exit", (0, 1)))
        self.assertEqual(run(inverse(made), store, fuel=9)[1], ("fail", "exit", (0, 2)))


class ThePromise(unittest.TestCase):
    def comes_back(self, made, store, fuel):
        behind, end, steps = run(made, store, fuel=fuel)
        if end != ("done",):
            return False
        self.assertEqual(run(inverse(made), behind, fuel=steps), (store, ("done",), steps))
        self.assertEqual(run(made, behind, fuel=steps, backward=True), (store, ("done",), steps))
        return True

    def test_known_programs(self):
        for n in range(12):
            store = (("n", n), ("x", 0), ("y", 0))
            self.assertTrue(self.comes_back(FIBONACCI, store, 1000))
        for a in (1, 2, 77, 255):
            self.assertTrue(self.comes_back(COUNTING, (("a", a), ("b", 200)), 5000))
        self.assertTrue(self.comes_back(TURNING, (("r", (1, 2, 3, 4, 5)), ("i", 0), ("j", 0)), 1000))

    def test_what_they_do(self):
        self.assertEqual(run(FIBONACCI, (("n", 10), ("x", 0), ("y", 0)), fuel=1000)[0],
                         (("n", 0), ("x", 89), ("y", 144)))
        self.assertEqual(run(FIBONACCI, (("n", 0), ("x", 89), ("y", 144)), fuel=1000, backward=True)[0],
                         (("n", 10), ("x", 0), ("y", 0)))
        self.assertEqual(run(COUNTING, (("a", 10), ("b", 250)), fuel=1000)[0], (("a", 10), ("b", 4)))
        self.assertEqual(run(TURNING, (("r", (1, 2, 3, 4, 5)), ("i", 0), ("j", 0)), fuel=1000)[0],
                         (("r", (5, 4, 3, 2, 1)), ("i", 0), ("j", 0)))

    def test_random_programs(self):
        came_back = 0
        for seed in range(300):
            maker = Maker(seed)
            made = maker.program()
            for _ in range(3):
                came_back += self.comes_back(made, maker.store(made), 300)
                came_back += self.comes_back(inverse(made), maker.store(made), 300)
        self.assertGreater(came_back, 400)
