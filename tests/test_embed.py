import copy
import unittest

from backrun.embed import embed
from backrun.faults import faults
from backrun.inverse import inverse
from backrun.plain import plain_faults, run_plain
from backrun.run import run
from backrun.text import read_program, show_program
from tests.plain_samples import A, B, C, PlainMaker, nested_ifs, put
from tests.samples import nested_nots, num, var

ONE = num(1)


def less_one(name):
    return put(name, ("sub", var(name), ONE))


def more_one(name):
    return put(name, ("add", var(name), ONE))


# (n) to the factorial of n
FACTORIAL = (8, ("n", "f"), ("n",), ("f",), (
    put("f", ONE), ("while", var("n"), (put("f", ("mul", var("f"), var("n"))), less_one("n")))))

# (a, b) to their product, added up one by one
PRODUCT = (8, ("a", "b", "c", "k"), ("a", "b"), ("c",), (
    ("while", A, (put("k", B), ("while", var("k"), (more_one("c"), less_one("k"))), less_one("a"))),))

# (a, b) to a number that both divide by, by taking the lesser from the greater
DIVISOR = (8, ("a", "b"), ("a", "b"), ("a",), (
    ("while", ("not", ("equal", A, B)), (
        ("if", ("less", A, B), (put("b", ("sub", B, A)),), (put("a", ("sub", A, B)),)),)),))

# the greater one of a and b, and whether it is a
GREATER = (4, ("a", "b", "c"), ("a", "b"), ("a", "c"), (
    ("if", ("less", A, B), (put("a", B),), (put("c", ONE), put("c", C))),))


class EmbedTest(unittest.TestCase):
    def made(self, plain, room):
        """The program that embed gives, when it has been looked at."""
        self.assertEqual(plain_faults(plain), [])
        before = copy.deepcopy(plain)
        program = embed(plain, room)
        self.assertEqual(plain, before)
        self.assertEqual(faults(program), [])
        width, names, _, outputs, _ = plain
        self.assertEqual(program[0], width)
        declared = tuple((name, 0) for name in names) + tuple(("back_out_" + name, 0) for name in outputs)
        self.assertEqual(program[1], declared + (("back_trail", room), ("back_top", 0)))
        return program

    def store(self, program, **words):
        return tuple((name, words.get(name, (0,) * size if size else 0)) for name, size in program[1])

    def end_with(self, plain, values, room, fuel):
        """The end of the run with so much room, when the store has been looked at."""
        program = self.made(plain, room)
        given = dict(zip(plain[2], values))
        first = self.store(program, **given)
        last, end, steps = run(program, first, fuel=fuel)
        if end == ("done",):
            outputs, plain_end, plain_steps, _ = run_plain(plain, values, fuel=10 ** 6)
            self.assertEqual(plain_end, ("done",))
            shown = {"back_out_" + name: word for name, word in zip(plain[3], outputs)}
            self.assertEqual(last, self.store(program, **given, **shown))
            self.assertEqual(run(program, last, fuel=fuel, backward=True), (first, ("done",), steps))
            self.assertEqual(run(inverse(program), last, fuel=fuel), (first, ("done",), steps))
            self.assertLessEqual(steps, 100 * plain_steps + 1000)
        return end

    def look_at(self, plain, *values):
        """Look at the run with the room that it needs, with more and with less."""
        _, end, steps, marks = run_plain(plain, values, fuel=10 ** 5)
        self.assertEqual(end, ("done",))
        fuel = 100 * steps + 1001
        most = min(256, 2 ** plain[0] - 1)
        for room in sorted({max(marks, 1), marks + 1, marks + 7, most}):
            if room <= most:
                want = ("done",) if marks <= room else None
                found = self.end_with(plain, values, room, fuel)
                self.assertEqual(found if want else found[0], want or "fail")
        for room in sorted({1, marks // 2, marks - 1}):
            if 1 <= room < marks and room <= most:
                self.assertEqual(self.end_with(plain, values, room, fuel)[0], "fail")
        return marks


class Embed(EmbedTest):
    def test_nothing(self):
        for plain in ((1, (), (), (), ()), (8, ("a",), ("a",), ("a",), ()), (32, ("a", "b"), (), ("b", "a"), ())):
            self.look_at(plain, *[1 for _ in plain[2]])

    def test_globals(self):
        program = self.made((8, ("x", "a", "b"), ("b",), ("b", "x"), ()), 17)
        self.assertEqual(program[1], (
            ("x", 0), ("a", 0), ("b", 0), ("back_out_b", 0), ("back_out_x", 0), ("back_trail", 17), ("back_top", 0)))

    def test_long_names(self):
        name = "abcdefghijk"
        self.look_at((8, (name,), (name,), (name,), (put(name, ("add", var(name), ONE)),)), 4)
        self.assertEqual(self.made((8, (name,), (), (name,), ()), 1)[1][1], ("back_out_abcdefghijk", 0))

    def test_sets(self):
        self.assertEqual(self.look_at((8, ("a",), (), ("a",), (put("a", num(5)),))), 1)
        self.look_at((8, ("a",), ("a",), ("a",), (put("a", ("mul", A, A)), put("a", ("add", A, num(3))))), 9)
        self.look_at((8, ("a", "b"), ("a", "b"), ("b", "a"), (put("a", B), put("b", A), put("b", num(0)))), 3, 4)
        # what is forgotten may be the same as what comes
        self.look_at((8, ("a",), ("a",), ("a",), (put("a", A), put("a", A), put("a", num(7)))), 7)

    def test_an_input_that_is_an_output(self):
        self.look_at((8, ("a",), ("a",), ("a",), ()), 200)
        self.look_at((8, ("a", "b"), ("a", "b"), ("a", "b"), (put("a", num(0)), put("b", ("not", B)))), 5, 6)

    def test_ifs(self):
        for values in ((1, 9), (9, 1), (3, 3), (0, 0), (15, 0)):
            self.look_at(GREATER, *values)
        # the bodies change what was looked at
        body = (("if", A, (put("a", num(0)),), (put("a", num(3)),)), ("if", A, (), (put("b", ONE),)), ("if", num(0), (), ()))
        for value in (0, 1, 255):
            self.look_at((8, ("a", "b"), ("a",), ("b", "a"), body), value)

    def test_whiles(self):
        for count in range(6):
            self.look_at(FACTORIAL, count)
        for values in ((0, 5), (5, 0), (1, 1), (3, 4), (7, 2)):
            self.look_at(PRODUCT, *values)
        for values in ((6, 4), (1, 1), (9, 3), (35, 14), (1, 60)):
            self.look_at(DIVISOR, *values)

    def test_a_body_that_is_never_done(self):
        for e in (num(0), A, ("less", A, A)):
            self.assertEqual(self.look_at((8, ("a", "b"), ("a",), ("b",), (("while", e, (put("b", ONE),)), more_one("b"))), 0), 2)
        self.look_at((8, ("a",), (), ("a",), (("while", num(0), ()),)))

    def test_two_counts(self):
        body = (("while", ("or", A, B), (("if", A, (less_one("a"),), ()), ("if", B, (less_one("b"),), ()), more_one("c"))),)
        for values in ((3, 5), (5, 3), (0, 0), (0, 4)):
            self.look_at((8, ("a", "b", "c"), ("a", "b"), ("c",), body), *values)

    def test_whiles_one_behind_the_other(self):
        body = (("while", A, (less_one("a"), more_one("c"))), ("while", B, (less_one("b"), more_one("c"))))
        self.look_at((8, ("a", "b", "c"), ("a", "b"), ("c",), body), 4, 6)

    def test_each_width(self):
        for width in (1, 2, 3, 4, 8, 16, 32):
            plain = (width, ("a", "b"), ("a",), ("b",), (("if", A, (put("b", ("not", B)),), ()),))
            for value in (0, 1, 2 ** width - 1):
                if width > 1:
                    self.look_at(plain, value)
        self.look_at((1, ("a",), ("a",), ("a",), (put("a", ("not", A)),)), 1)
        self.look_at((1, ("a", "b"), ("a",), ("b",), (put("a", ONE), put("b", ONE))), 1)

    def test_rooms_of_all_sizes(self):
        plain = (8, ("a",), ("a",), (), (("while", A, (less_one("a"),)),))
        # 254 sets and the while: just as many as there are cells
        self.assertEqual(self.end_with(plain, (254,), 255, 10 ** 5), ("done",))
        self.assertEqual(self.end_with(plain, (255,), 255, 10 ** 5)[0], "fail")
        wide = (9, ("a",), ("a",), (), (("while", A, (less_one("a"),)),))
        self.assertEqual(self.end_with(wide, (255,), 256, 10 ** 5), ("done",))
        self.assertEqual(self.end_with(wide, (256,), 256, 10 ** 5)[0], "fail")
        self.assertEqual(self.end_with(wide, (255,), 255, 10 ** 5)[0], "fail")

    def test_less_room_than_marks(self):
        # the cell that the trail goes on with would be 0, so that nothing else tells that the room is used up
        body = (put("a", num(0)), put("a", num(0)), ("if", num(0), (), ()), ("while", num(0), ()))
        for many in range(1, 5):
            for room in range(1, 6):
                found = self.end_with((8, ("a",), (), ("a",), body[:many]), (), room, 10 ** 4)
                self.assertEqual(found == ("done",), many <= room, (many, room))

    def test_the_turns_of_a_while(self):
        # with 2 bits a while may do its body 3 times; the marks of its body would be too many as well
        for width, most in ((1, 1), (2, 3), (3, 7)):
            plain = (width, ("a",), ("a",), ("a",), (("while", A, (less_one("a"),)),))
            for value in range(2 ** width):
                for room in range(1, 2 ** width):
                    found = self.end_with(plain, (value,), room, 10 ** 4)
                    self.assertEqual(found == ("done",), value + 1 <= room)
        forever = (2, ("a",), (), (), (("while", num(1), ()),))
        self.assertEqual(self.end_with(forever, (), 3, 10 ** 4)[0], "fail")

    def test_no_end(self):
        for body in ((("while", num(1), ()),), (("while", num(1), (more_one("a"),)),), (("while", ("not", A), (put("b", B),)),),
                     (put("a", num(0)), ("while", ("equal", A, num(0)), (("if", A, (), ()),)))):
            for width in (1, 2, 4):
                plain = (width, ("a", "b"), (), ("a",), body)
                for room in {1, 2 ** width - 1}:
                    self.assertNotEqual(self.end_with(plain, (), room, 10 ** 4), ("done",))
        wide = (32, ("a",), (), ("a",), (("while", num(1), ()),))
        self.assertEqual(self.end_with(wide, (), 256, 2000), ("none",))

    def test_deep_statements(self):
        for inner in ((), (put("b", A),), (put("a", num(0)), put("b", ("add", B, ONE)))):
            self.look_at((8, ("a", "b"), ("a",), ("b",), nested_ifs(7, inner + (put("b", ONE),))), 3)
        body = (put("b", ("add", B, ONE)),)
        for at in range(7):
            body = (("while", A, body + (put("a", num(0)),)),) if at % 2 else (("if", A, body, body),)
        self.look_at((8, ("a", "b"), ("a",), ("b",), body), 3)
        body = (put("a", num(0)),)
        for _ in range(7):
            body = (("while", A, body),)
        self.look_at((8, ("a",), ("a",), ("a",), body), 3)
        body = ()
        for _ in range(8):
            body = (("while", A, body),)
        self.look_at((8, ("a",), ("a",), ("a",), body), 0)

    def test_deep_expressions(self):
        deep, never = nested_nots(17), num(0)
        for _ in range(16):
            never = ("not", never)
        body = (put("a", deep), ("if", deep, (put("b", deep),), ()), ("while", never, ()), ("if", never, (), (more_one("a"),)))
        self.look_at((8, ("a", "b"), (), ("a", "b"), body))
        self.look_at((8, (), (), (), (("while", never, ()),)))
        self.assertEqual(self.end_with((2, (), (), (), (("while", deep, ()),)), (), 3, 10 ** 4)[0], "fail")
        self.look_at((8, ("a",), ("a",), ("a",), (("while", ("and", A, nested_nots(16)), ()),)), 0)

    def test_many_names(self):
        names = tuple("n%d" % at for at in range(20))
        body = tuple(put(names[at], ("add", var(names[at - 1]), num(at))) for at in range(20))
        self.look_at((8, names, names[:10], names[5:], body), *range(10))

    def test_words_of_the_language(self):
        names = ("set", "while", "main", "x", "b", "bac", "out")
        self.look_at((8, names, ("main",), ("while", "set"), (put("set", var("main")), put("while", ("not", var("set"))))), 4)

    def test_the_text(self):
        program = self.made(PRODUCT, 40)
        self.assertEqual(read_program(show_program(program)), program)

    def test_random_ones(self):
        done = 0
        for seed in range(500):
            maker = PlainMaker(seed)
            plain = maker.program()
            values = maker.values(plain)
            _, end, steps, marks = run_plain(plain, values, fuel=600)
            if end == ("done",) and marks <= min(256, 2 ** plain[0] - 1):
                self.look_at(plain, *values)
                done += 1
            else:
                room = maker.random.randint(1, min(256, 2 ** plain[0] - 1))
                self.assertNotEqual(self.end_with(plain, values, room, 3000), ("done",))
        self.assertGreater(done, 200)
