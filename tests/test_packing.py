import copy
import random
import unittest

from backrun.errors import PackError
from backrun.packing import pack, unpack

SIGNS = "abcdefghijklmnopqrstuvwxyz0123456789_"


def size(n):
    digits = []
    while True:
        digits.append(n % 128)
        n //= 128
        if n == 0:
            return [digit + 128 for digit in digits[:-1]] + digits[-1:]


def nested(depth, inner):
    for _ in range(depth):
        inner = (inner,)
    return inner


def kinds(value):
    """The value with the kind of each part."""
    if isinstance(value, tuple):
        return (tuple, [kinds(item) for item in value])
    return (type(value), value)


class Pack(unittest.TestCase):
    def look_at(self, value, data):
        before = copy.deepcopy(value)
        found = pack(value)
        self.assertIs(type(found), list)
        self.assertEqual(kinds(tuple(found)), kinds(tuple(data)))
        self.assertEqual(value, before)
        kept = list(data)
        self.assertEqual(kinds(unpack(data)), kinds(value))
        self.assertEqual(data, kept)

    def test_single_ones(self):
        self.look_at(None, [0])
        self.look_at(False, [1])
        self.look_at(True, [2])

    def test_numbers(self):
        for n, digits in ((0, [0]), (1, [1]), (127, [127]), (128, [128, 1]), (129, [129, 1]), (255, [255, 1]), (256, [128, 2]),
                          (16383, [255, 127]), (16384, [128, 128, 1]), (16385, [129, 128, 1]), (2097151, [255, 255, 127]),
                          (2097152, [128, 128, 128, 1])):
            self.look_at(n, [3] + digits)
            self.look_at(-1 - n, [4] + digits)
        self.look_at(-1, [4, 0])
        self.look_at(-128, [4, 127])
        self.look_at(-129, [4, 128, 1])

    def test_very_great_numbers(self):
        for n in (2 ** 31, 2 ** 32, 2 ** 64, 10 ** 50, 2 ** 700, 2 ** 5000 - 1, 10 ** 20000):
            self.look_at(n, [3] + size(n))
            self.look_at(-n, [4] + size(n - 1))

    def test_strings(self):
        self.look_at("", [5, 0])
        self.look_at("a", [5, 1, 0])
        self.look_at("az09_", [5, 5, 0, 25, 26, 35, 36])
        self.look_at(SIGNS, [5, 37] + list(range(37)))
        for many in (127, 128, 16383, 16384):
            self.look_at("b" * many, [5] + size(many) + [1] * many)

    def test_tuples(self):
        self.look_at((), [6, 0])
        self.look_at((None,), [6, 1, 0])
        self.look_at((True, 1, "1", (False, 0, "")), [6, 4, 2, 3, 1, 5, 1, 27, 6, 3, 1, 3, 0, 5, 0])
        self.look_at(((), ((), ()), ()), [6, 3, 6, 0, 6, 2, 6, 0, 6, 0, 6, 0])
        for many in (127, 128, 16383, 16384):
            self.look_at((None,) * many, [6] + size(many) + [0] * many)

    def test_deep_tuples(self):
        for depth in (1, 2, 59, 60):
            self.look_at(nested(depth, 5), [6, 1] * depth + [3, 5])
            self.look_at(nested(depth - 1, ()), [6, 1] * (depth - 1) + [6, 0])
        wide = 0
        for _ in range(60):
            wide = (None, wide, "a")
        self.look_at(wide, [6, 3, 0] * 60 + [3, 0] + [5, 1, 0] * 60)

    def test_other_values(self):
        for value in (1.0, [], [1], {}, {1: 2}, set(), b"", b"a", 1j, object(), pack, "A", "a b", "-", "a\n", "%", "\u00e4", "\u0661",
                      range(3), Exception("a"), bytearray(b"a"), float("nan"), "aZ", ".", " "):
            for whole in (value, (value,), (1, value), (value, 1), ("a", (None, (value,)), 2), nested(60, value)):
                with self.assertRaises(PackError) as caught:
                    pack(whole)
                self.assertEqual(caught.exception.at, -1)

    def test_random_ones(self):
        chance = random.Random(5)

        def value(depth):
            kind = chance.randrange(6 if depth < 5 else 5)
            if kind < 2:
                return chance.choice((None, True, False))
            if kind == 2:
                return chance.choice((1, -1)) * chance.randrange(2 ** chance.randrange(1, 70))
            if kind == 3:
                return chance.randrange(-300, 300)
            if kind == 4:
                return "".join(chance.choice(SIGNS) for _ in range(chance.randrange(5)))
            return tuple(value(depth + 1) for _ in range(chance.randrange(5)))
        for _ in range(500):
            made = value(0)
            data = pack(made)
            self.assertEqual(kinds(unpack(data)), kinds(made))
            self.assertTrue(all(type(byte) is int and 0 <= byte <= 255 for byte in data))


class Unpack(unittest.TestCase):
    def refused(self, data, at):
        before = list(data)
        with self.assertRaises(PackError) as caught:
            unpack(data)
        self.assertEqual(caught.exception.at, at, data)
        self.assertEqual(data, before)

    def test_nothing(self):
        self.refused([], 0)

    def test_kinds_of_no_value(self):
        for kind in (7, 8, 100, 128, 255):
            self.refused([kind], 0)
            self.refused([kind, 0], 0)
            self.refused([6, 1, kind], 2)
            self.refused([6, 2, 0, kind], 3)
            self.refused([6, 3, 3, 128, 1, 6, 1, kind, 0], 7)

    def test_needless_digits(self):
        for kind in (3, 4, 5, 6):
            self.refused([kind, 128, 0], 2)
            self.refused([kind, 129, 0], 2)
            self.refused([kind, 255, 255, 0], 3)
            self.refused([6, 1, kind, 129, 0], 4)
            self.refused([kind, 128, 128, 128, 0, 1], 4)
        self.assertEqual(unpack([3, 0]), 0)
        self.assertEqual(unpack([3, 128, 128, 1]), 16384)

    def test_places_of_no_character(self):
        for place in (37, 38, 127, 128, 255):
            self.refused([5, 1, place], 2)
            self.refused([5, 3, 0, 36, place], 4)
            self.refused([6, 2, 0, 5, 2, 0, place], 6)

    def test_bytes_behind_the_end(self):
        for data in ([0], [1], [2], [3, 5], [4, 128, 1], [5, 0], [5, 2, 1, 2], [6, 0], [6, 2, 0, 1], [6, 1, 6, 1, 6, 0]):
            unpack(data)
            for more in (0, 6, 255):
                self.refused(data + [more], len(data))
                self.refused(data + [more, more], len(data))

    def test_each_cut(self):
        for value in (128, -300, "abc", "a" * 130, (1, 2, 3), (None, "ab", (16384, (True, ()), "z")), nested(60, 2 ** 40),
                      10 ** 100, ((), ((), ()))):
            data = pack(value)
            for at in range(len(data)):
                self.refused(data[:at], at)

    def test_sizes_that_no_data_have(self):
        for kind in (5, 6):
            for n in (3, 128, 2 ** 40, 2 ** 70, 2 ** 1000):
                data = [kind] + size(n) + [0, 0]
                self.refused(data, len(data))
        data = [6] + size(2 ** 80) + [6] + size(2 ** 90) + [0]
        self.refused(data, len(data))

    def test_what_is_no_byte(self):
        for value in (256, -1, 1000, None, True, False, "0", 0.0, (), [0]):
            self.refused([value], 0)
            self.refused([3, value], 1)
            self.refused([3, 128, value], 2)
            self.refused([5, 2, 0, value], 3)
            self.refused([6, 2, 0, value], 3)
            self.refused([0, value], 1)

    def test_the_first_one_counts(self):
        self.refused([6, 2, 7, 3, 128, 0], 2)
        self.refused([5, 2, 37, 38], 2)
        self.refused([6, 200, 1, 9], 3)

    def test_data_that_are_read_are_those_that_are_made(self):
        chance = random.Random(9)
        read = 0
        for _ in range(20000):
            data = [chance.choice((0, 1, 2, 3, 4, 5, 6, 7, 36, 37, 127, 128, 129)) for _ in range(chance.randrange(1, 9))]
            try:
                value = unpack(data)
            except PackError as error:
                self.assertLessEqual(error.at, len(data))
                # the bytes ahead can go on, and with the one at fault they cannot
                if error.at < len(data):
                    try:
                        unpack(data[:error.at])
                    except PackError as shorter:
                        self.assertEqual(shorter.at, error.at)
                continue
            self.assertEqual(pack(value), data)
            read += 1
        self.assertGreater(read, 500)
