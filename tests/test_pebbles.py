import collections
import copy
import itertools
import random
import unittest

from backrun.errors import ChainError
from backrun.faults import faults
from backrun.inverse import inverse
from backrun.pebbles import chain_program, chain_value, is_pebbling, least_moves, pebbling
from backrun.run import run
from backrun.values import value_of
from tests.plain_samples import cell_free_ops
from tests.samples import nested_nots, num, var

X = var("x")


def searched(n, room):
    """The least number of moves, by a search through all standings; -1 if there is no row of moves."""
    goal = 1 << (n - 1)
    found = {0: 0}
    waiting = collections.deque([0])
    while waiting:
        standing = waiting.popleft()
        if standing == goal:
            return found[standing]
        for at in range(n):
            if at == 0 or standing >> (at - 1) & 1:
                other = standing ^ (1 << at)
                if bin(other).count("1") <= room and other not in found:
                    found[other] = found[standing] + 1
                    waiting.append(other)
    return -1


def all_first(n):
    """The moves that place a pebble everywhere, and then take all away but the last one."""
    return list(range(1, n + 1)) + [-at for at in range(n - 1, 0, -1)]


class IsPebbling(unittest.TestCase):
    def look_at(self, n, room, moves, want):
        before = copy.deepcopy(moves)
        self.assertIs(is_pebbling(n, room, moves), want, (n, room, moves))
        self.assertIs(is_pebbling(n, room, tuple(moves)), want)
        self.assertEqual(moves, before)

    def test_right_ones(self):
        self.look_at(1, 1, [1], True)
        self.look_at(1, 20, [1, -1, 1], True)
        self.look_at(2, 2, [1, 2, -1], True)
        self.look_at(3, 3, [1, 2, 3, -2, -1], True)
        self.look_at(3, 3, [1, 2, -1, 3, 1, -2, -1], True)
        self.look_at(4, 3, [1, 2, -1, 3, 4, -3, 1, -2, -1], True)
        for n in range(1, 21):
            self.look_at(n, n, all_first(n), True)

    def test_moves_that_are_not_allowed(self):
        for moves in ([2], [2, 1], [1, 3], [1, 1], [-1], [1, -2], [1, 2, -1, -2], [1, 2, -1, 3, -2], [1, 2, 2], [1, 2, -1, -1]):
            self.look_at(3, 3, moves, False)
        good = [1, 2, 3, 4, -3, -2, -1]
        for at in range(len(good) + 1):
            for bad in (0, 5, -5, 6, -4 if at < 4 else 3 if at < 5 else 4):
                self.look_at(4, 4, good[:at] + [bad] + good[at:], False)

    def test_each_place_left_out(self):
        good = [1, 2, 3, 4, -3, -2, -1]
        for at in range(len(good)):
            self.look_at(4, 4, good[:at] + good[at + 1:], False)

    def test_too_many_pebbles(self):
        for n in range(2, 10):
            self.look_at(n, n - 1, all_first(n), False)
            self.look_at(n, n, all_first(n), True)
        self.look_at(1, 1, [1, -1, 1], True)
        # for one moment only
        self.look_at(2, 1, [1, 2, -1], False)

    def test_pebbles_at_the_end(self):
        self.look_at(2, 2, [1, 2], False)
        self.look_at(3, 3, [1, 2, 3, -2], False)
        self.look_at(3, 3, [1, 2, 3], False)
        self.look_at(3, 3, [1, 2, -1], False)
        self.look_at(2, 2, [1], False)
        self.look_at(1, 1, [1, -1], False)
        self.look_at(2, 2, [1, 2, -1, 1], False)

    def test_no_moves(self):
        for n in (1, 2, 80):
            self.look_at(n, 20, [], False)

    def test_places_beyond(self):
        self.look_at(2, 3, [1, 2, 3, -2, -1], False)
        self.look_at(2, 3, [1, 2, 3, -3, -1], False)
        self.look_at(1, 3, [1, 2, -2], False)
        self.look_at(1, 1, [10 ** 20], False)

    def test_zero_and_other_kinds(self):
        self.look_at(1, 1, [0, 1], False)
        self.look_at(1, 1, [1, 0], False)
        self.look_at(1, 1, [True], False)

    def test_against_a_second_look(self):
        def second_look(n, room, moves):
            standing = set()
            for move in moves:
                place = abs(move)
                if not 1 <= place <= n or place > 1 and place - 1 not in standing or (move > 0) == (place in standing):
                    return False
                standing ^= {place}
                if len(standing) > room:
                    return False
            return standing == {n}
        good = 0
        for many in range(7):
            for moves in itertools.product((-3, -2, -1, 1, 2, 3), repeat=many):
                want = second_look(3, 2, moves)
                self.assertIs(is_pebbling(3, 2, moves), want)
                self.assertIs(is_pebbling(2, 2, moves), second_look(2, 2, moves))
                good += second_look(2, 2, moves)
        self.assertGreater(good, 3)


class LeastMoves(unittest.TestCase):
    def test_against_a_search(self):
        for n in range(1, 14):
            for room in range(1, 8):
                self.assertEqual(least_moves(n, room), searched(n, room), (n, room))

    def test_known_ones(self):
        self.assertEqual([least_moves(n, 20) for n in range(1, 21)], [2 * n - 1 for n in range(1, 21)])
        self.assertEqual([least_moves(2 ** (room - 1), room) for room in range(1, 5)], [1, 3, 9, 25])
        for room in range(1, 8):
            # halving again and again takes so many
            self.assertLessEqual(least_moves(2 ** (room - 1), room), 3 ** (room - 1))

    def test_where_there_is_none(self):
        for n in range(1, 81):
            for room in range(1, 21):
                self.assertEqual(least_moves(n, room) == -1, n > 2 ** (room - 1), (n, room))

    def test_more_room_is_never_worse(self):
        for n in (5, 17, 40, 64, 80):
            rows = [least_moves(n, room) for room in range(1, 21)]
            rows = [moves for moves in rows if moves > 0]
            self.assertEqual(rows, sorted(rows, reverse=True))


class Pebbling(unittest.TestCase):
    def look_at(self, n, room):
        moves = pebbling(n, room)
        self.assertIs(type(moves), list)
        self.assertEqual(len(moves), least_moves(n, room))
        self.assertTrue(is_pebbling(n, room, moves), (n, room))

    def test_small_ones(self):
        self.assertEqual(pebbling(1, 1), [1])
        self.assertEqual(pebbling(2, 2), [1, 2, -1])
        for n in range(1, 17):
            for room in range(1, 9):
                if n <= 2 ** (room - 1):
                    self.look_at(n, room)

    def test_large_ones(self):
        for n in (31, 32, 33, 63, 64, 65, 79, 80):
            for room in range(1, 21):
                if n <= 2 ** (room - 1):
                    self.look_at(n, room)

    def test_none(self):
        for n in range(1, 81):
            for room in range(1, 9):
                if n > 2 ** (room - 1):
                    with self.assertRaises(ChainError):
                        pebbling(n, room)

    def test_it_is_made_anew(self):
        moves = pebbling(3, 3)
        moves.append(7)
        self.assertEqual(len(pebbling(3, 3)), least_moves(3, 3))


class Chains(unittest.TestCase):
    def random_chain(self, seed):
        chance = random.Random(seed)
        width = chance.choice((1, 2, 4, 8, 16, 32))

        def expression(depth):
            kind = chance.choice(("x", "int", "not", "op", "op") if depth < 3 else ("x", "int"))
            if kind == "x":
                return X
            if kind == "int":
                return num(chance.randrange(2 ** width))
            if kind == "not":
                return ("not", expression(depth + 1))
            return (chance.choice(cell_free_ops()), expression(depth + 1), expression(depth + 1))
        return (width, tuple(expression(0) for _ in range(chance.randrange(1, 17))))

    def test_values(self):
        self.assertEqual(chain_value((8, (X,)), 7), 7)
        self.assertEqual(chain_value((8, (("add", X, num(1)), ("mul", X, X))), 4), 25)
        self.assertEqual(chain_value((4, (("add", X, num(1)), ("mul", X, X))), 4), 9)
        self.assertEqual(chain_value((8, (("add", X, num(1)), num(9), ("not", X))), 4), 0)
        self.assertEqual(chain_value((8, (nested_nots(20),)), 4), 0)
        for seed in range(50):
            width, functions = self.random_chain(seed)
            word = want = seed % 2 ** width
            for function in functions:
                want = value_of(width, function, {"x": want})
            self.assertEqual(chain_value((width, functions), word), want)

    def program(self, chain, moves, room):
        """The program of a chain, when it has been looked at."""
        self.assertTrue(is_pebbling(len(chain[1]), room, moves))
        before = copy.deepcopy((chain, moves))
        program = chain_program(chain, moves, room)
        self.assertEqual((chain, moves), before)
        self.assertEqual(faults(program), [])
        names = ["back_in", "back_out"] + ["back_s%d" % at for at in range(room)]
        self.assertEqual(program[:2], (chain[0], tuple((name, 0) for name in names)))
        self.assertEqual([name for name, _, _ in program[2]], ["main"])
        self.assertEqual(len(program[2][0][2]), len(moves) + 1)
        return program

    def runs(self, chain, moves, room, *words):
        program = self.program(chain, moves, room)
        for word in words:
            first = tuple((name, word if name == "back_in" else 0) for name, _ in program[1])
            shown = {"back_in": word, "back_out": chain_value(chain, word)}
            want = tuple((name, shown.get(name, 0)) for name, _ in program[1])
            self.assertEqual(run(program, first, fuel=10 ** 6), (want, ("done",), len(moves) + 1))
            self.assertEqual(run(inverse(program), want, fuel=10 ** 6), (first, ("done",), len(moves) + 1))

    def test_one_function(self):
        chain = (8, (("add", X, num(3)),))
        for room in (1, 2, 20):
            self.runs(chain, [1], room, 0, 1, 255)
            self.runs(chain, [1, -1, 1], room, 0, 9)
        self.assertEqual(self.program(chain, [1], 1)[2][0][2], (
            ("xor", var("back_s0"), ("add", var("back_in"), num(3))), ("swap", var("back_s0"), var("back_out"))))

    def test_the_statements(self):
        chain = (8, (("add", X, num(1)), ("mul", X, X), ("not", X)))
        body = self.program(chain, [1, 2, -1, 3, 1, -2, -1], 3)[2][0][2]
        s = [var("back_s%d" % at) for at in range(3)]
        self.assertEqual(body, (
            ("xor", s[0], ("add", var("back_in"), num(1))),
            ("xor", s[1], ("mul", s[0], s[0])),
            ("xor", s[0], ("add", var("back_in"), num(1))),
            # the least slot that is free is the one that the first pebble left
            ("xor", s[0], ("not", s[1])),
            ("xor", s[2], ("add", var("back_in"), num(1))),
            ("xor", s[1], ("mul", s[2], s[2])),
            ("xor", s[2], ("add", var("back_in"), num(1))),
            ("swap", s[0], var("back_out")),
        ))

    def test_all_places_first(self):
        for n in (1, 2, 3, 7, 20):
            chain = (8, tuple(("add", ("mul", X, num(at)), num(at)) for at in range(1, n + 1)))
            self.runs(chain, all_first(n), n, 0, 5, 255)

    def test_by_pebbling(self):
        for n, room in ((1, 1), (2, 2), (3, 3), (4, 3), (8, 4), (11, 5), (16, 5), (30, 6), (80, 8), (80, 20)):
            chain = (16, tuple(("xor", ("mul", X, num(2 * at + 1)), ("shr", X, num(at % 16))) for at in range(n)))
            self.runs(chain, pebbling(n, room), room, 0, 1, 65535, 12345)

    def test_more_room_than_is_used(self):
        chain = (8, (("add", X, num(1)), ("add", X, X)))
        self.runs(chain, [1, 2, -1], 20, 4)

    def test_functions_without_x(self):
        self.runs((8, (num(7),)), [1], 1, 0, 9)
        self.runs((8, (num(7), ("add", X, num(1)), num(3))), all_first(3), 3, 0, 9)
        self.runs((8, (X, num(7), ("not", num(0)))), pebbling(3, 3), 3, 0, 9)

    def test_deep_functions(self):
        deep = X
        for _ in range(19):
            deep = ("not", deep)
        self.runs((8, (deep, deep)), [1, 2, -1], 2, 0, 1, 9)

    def test_random_ones(self):
        for seed in range(200):
            chain = self.random_chain(seed)
            n = len(chain[1])
            top = 2 ** chain[0] - 1
            least = next(room for room in range(1, 21) if n <= 2 ** (room - 1))
            for moves, room in ((pebbling(n, least), least), (pebbling(n, least + 1), least + 2), (all_first(n), n)):
                self.runs(chain, moves, room, 0, 1, top, seed % (top + 1))
