import unittest

from backrun.words import OPS, compute, top


def expected(op, w, x, y):
    size = 2 ** w
    table = {
        "add": lambda: (x + y) % size,
        "sub": lambda: (x - y) % size,
        "mul": lambda: (x * y) % size,
        "and": lambda: sum(2 ** k for k in range(w) if x // 2 ** k % 2 == 1 and y // 2 ** k % 2 == 1),
        "or": lambda: sum(2 ** k for k in range(w) if x // 2 ** k % 2 == 1 or y // 2 ** k % 2 == 1),
        "xor": lambda: sum(2 ** k for k in range(w) if x // 2 ** k % 2 != y // 2 ** k % 2),
        "less": lambda: int(x < y),
        "equal": lambda: int(x == y),
        "shl": lambda: (x * 2 ** y) % size if y < w else 0,
        "shr": lambda: x // 2 ** y if y < w else 0,
    }
    return table[op]()


class Words(unittest.TestCase):
    def test_ops(self):
        self.assertIs(type(OPS), tuple)
        self.assertEqual(OPS, ("add", "sub", "mul", "and", "or", "xor", "less", "equal", "shl", "shr"))

    def test_top(self):
        self.assertEqual([top(w) for w in (1, 2, 8, 31, 32)], [1, 3, 255, 2147483647, 4294967295])

    def same(self, op, w, x, y):
        got = compute(op, w, x, y)
        self.assertEqual(got, expected(op, w, x, y), (op, w, x, y))
        self.assertIs(type(got), int)

    def test_all_pairs_at_small_widths(self):
        for w in (1, 2, 3, 4):
            for op in OPS:
                for x in range(2 ** w):
                    for y in range(2 ** w):
                        self.same(op, w, x, y)

    def test_edges_at_great_widths(self):
        for w in (8, 31, 32):
            edges = {0, 1, top(w), top(w) - 1}
            for k in range(w):
                edges |= {2 ** k - 1, 2 ** k, min(2 ** k + 1, top(w))}
            few = (0, 1, 2, 3, w - 1, w, w + 1, 2 ** (w - 1), 2 ** (w - 1) - 1, top(w) - 1, top(w))
            for op in OPS:
                for x in sorted(edges):
                    for y in few:
                        self.same(op, w, x, y)
                        self.same(op, w, y, x)

    def test_over_and_below_the_bounds(self):
        self.assertEqual(compute("add", 8, 255, 1), 0)
        self.assertEqual(compute("add", 8, 255, 255), 254)
        self.assertEqual(compute("sub", 8, 0, 1), 255)
        self.assertEqual(compute("sub", 32, 0, 4294967295), 1)
        self.assertEqual(compute("mul", 8, 16, 16), 0)
        self.assertEqual(compute("mul", 32, 4294967295, 4294967295), 1)
        self.assertEqual(compute("add", 1, 1, 1), 0)
        self.assertEqual(compute("sub", 1, 0, 1), 1)

    def test_shifts(self):
        self.assertEqual(compute("shl", 8, 3, 0), 3)
        self.assertEqual(compute("shl", 8, 3, 7), 128)
        self.assertEqual(compute("shl", 8, 3, 8), 0)
        self.assertEqual(compute("shl", 32, 1, 31), 2147483648)
        self.assertEqual(compute("shl", 32, 1, 32), 0)
        self.assertEqual(compute("shl", 32, 1, 4294967295), 0)
        self.assertEqual(compute("shr", 8, 129, 0), 129)
        self.assertEqual(compute("shr", 8, 129, 7), 1)
        self.assertEqual(compute("shr", 8, 129, 8), 0)
        self.assertEqual(compute("shr", 8, 255, 200), 0)
        self.assertEqual(compute("shr", 32, 4294967295, 4294967295), 0)
        self.assertEqual(compute("shl", 1, 1, 0), 1)
        self.assertEqual(compute("shl", 1, 1, 1), 0)
        self.assertEqual(compute("shr", 1, 1, 1), 0)
