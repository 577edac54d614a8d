import copy
import unittest

from backrun.values import value_of
from backrun.words import OPS, compute, top
from tests.samples import cell, nested_nots, num, var


class Values(unittest.TestCase):
    def test_plain_kinds(self):
        look = {"x": 7, "y": 0, "r": [10, 20, 30]}
        self.assertEqual(value_of(8, num(0), {}), 0)
        self.assertEqual(value_of(8, num(255), {}), 255)
        self.assertEqual(value_of(8, var("x"), look), 7)
        self.assertEqual(value_of(8, cell("r", num(1)), look), 20)
        self.assertEqual(value_of(8, ("not", var("x")), look), 0)
        self.assertEqual(value_of(8, ("not", var("y")), look), 1)
        self.assertEqual(value_of(8, ("not", num(255)), look), 0)

    def test_each_op(self):
        for w in (1, 3, 8, 32):
            for op in OPS:
                for x in (0, 1, top(w)):
                    for y in (0, 1, top(w)):
                        look = {"x": x, "y": y}
                        self.assertEqual(value_of(w, (op, var("x"), var("y")), look), compute(op, w, x, y))

    def test_indices_go_round(self):
        look = {"r": [10, 20, 30], "one": [9], "big": list(range(256)), "i": 4294967295}
        for index in range(12):
            self.assertEqual(value_of(8, cell("r", num(index)), look), 10 + 10 * (index % 3))
            self.assertEqual(value_of(8, cell("one", num(index)), look), 9)
        self.assertEqual(value_of(32, cell("r", var("i")), look), 10 + 10 * (4294967295 % 3))
        self.assertEqual(value_of(32, cell("big", var("i")), look), 255)
        self.assertEqual(value_of(8, cell("r", ("sub", num(0), num(1))), look), 10)
        self.assertEqual(value_of(1, cell("r", ("add", num(1), num(1))), {"r": [1, 0, 0]}), 1)

    def test_indices_in_indices(self):
        look = {"r": [2, 0, 1], "k": 1}
        self.assertEqual(value_of(8, cell("r", cell("r", cell("r", var("k")))), look), 1)
        self.assertEqual(value_of(8, cell("r", cell("r", var("k"))), look), 2)

    def test_width_one_and_thirty_two(self):
        look = {"x": 1, "t": 4294967295}
        self.assertEqual(value_of(1, ("add", var("x"), num(1)), look), 0)
        self.assertEqual(value_of(1, ("sub", num(0), var("x")), look), 1)
        self.assertEqual(value_of(32, ("add", var("t"), num(1)), look), 0)
        self.assertEqual(value_of(32, ("mul", var("t"), var("t")), look), 1)
        self.assertEqual(value_of(32, ("shl", num(1), var("t")), look), 0)

    def test_deep(self):
        self.assertEqual(value_of(8, nested_nots(20), {}), 0)
        self.assertEqual(value_of(8, nested_nots(19), {}), 1)

    def test_look_stays(self):
        look = {"x": 1, "r": [3, 4]}
        before = copy.deepcopy(look)
        value_of(8, ("add", var("x"), cell("r", var("x"))), look)
        self.assertEqual(look, before)
