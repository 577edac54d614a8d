"""Programs for the tests: short ways to write them, some that do a known work, and random ones."""

import random

SKIP = ("skip",)
SIMPLE_WORDS = ("plus", "minus", "xor")


def num(word):
    return ("int", word)


def var(name):
    return ("var", name)


def cell(name, index):
    return ("cell", name, index)


def plus(name, e):
    return ("plus", var(name), e)


def minus(name, e):
    return ("minus", var(name), e)


def xor(name, e):
    return ("xor", var(name), e)


def program(body, declared=(("a", 0), ("b", 0), ("r", 4)), procedures=(), width=8):
    return (width, tuple(declared), (("main", (), tuple(body)),) + tuple(procedures))


def nested_ifs(depth, inside=()):
    """So many ifs, one in the other, the last one with the body inside."""
    body = tuple(inside)
    for _ in range(depth):
        body = (("if", num(1), body, (), num(1)),)
    return body


def nested_nots(depth):
    """An expression that nests so many deep."""
    e = num(1)
    for _ in range(depth - 1):
        e = ("not", e)
    return e


# n goes down to 0 while x and y go up through the Fibonacci numbers, by a procedure that calls itself.
FIBONACCI = (
    16, (("n", 0), ("x", 0), ("y", 0)),
    (
        ("main", (), (("call", "fib", ("n", "x", "y")),)),
        ("fib", (("n", 0), ("x", 0), ("y", 0)), (
            ("if", ("equal", var("n"), num(0)),
             (plus("x", num(1)), plus("y", num(1))),
             (minus("n", num(1)), ("call", "fib", ("n", "x", "y")),
              plus("x", var("y")), ("swap", var("x"), var("y"))),
             ("equal", var("x"), var("y"))),
        )),
    ),
)

# adds a to b, one by one, with a loop that counts in a local.
COUNTING = (
    8, (("a", 0), ("b", 0)),
    (
        ("main", (), (
            ("local", "k", num(0), (
                ("loop", ("equal", var("k"), num(0)),
                 (plus("k", num(1)), plus("b", num(1))), (SKIP,),
                 ("equal", var("k"), var("a"))),
            ), var("a")),
        )),
    ),
)

# turns an array round; a swap of two cells of one array is an alias, so the exchange goes through two locals.
TURNING = (
    8, (("r", 5), ("i", 0), ("j", 0)),
    (
        ("main", (), (
            plus("j", num(4)),
            ("loop", ("equal", var("i"), num(0)),
             (("call", "change", ("r", "i", "j")), plus("i", num(1)), minus("j", num(1))), (),
             ("not", ("less", var("i"), var("j")))),
            minus("i", num(2)), minus("j", num(2)),
        )),
        ("change", (("t", 5), ("p", 0), ("q", 0)), (
            ("local", "x", cell("t", var("p")), (
                ("local", "y", cell("t", var("q")), (
                    ("call", "clear", ("t", "p", "x")),
                    ("call", "clear", ("t", "q", "y")),
                    ("swap", var("x"), var("y")),
                    ("uncall", "clear", ("t", "p", "x")),
                    ("uncall", "clear", ("t", "q", "y")),
                ), cell("t", var("q"))),
            ), cell("t", var("p"))),
        )),
        ("clear", (("t", 5), ("p", 0), ("x", 0)), (("minus", cell("t", var("p")), var("x")),)),
    ),
)


def countdown(name):
    """A procedure that calls itself until its param is 0, and counts it up again behind the call."""
    return (name, (("n", 0),), (
        ("if", var("n"), (minus("n", num(1)), ("call", name, ("n",)), plus("n", num(1))), (), var("n")),
    ))


class Maker:
    """Makes random programs without faults."""

    def __init__(self, seed):
        self.random = random.Random(seed)

    def expression(self, width, seen, barred, depth=0):
        kinds = ["int", "var", "cell", "not", "op", "op"] if depth < 3 else ["int", "var"]
        kind = self.random.choice(kinds)
        names = [n for n in seen if n not in barred and (seen[n] > 0) == (kind == "cell")]
        if kind == "not":
            return ("not", self.expression(width, seen, barred, depth + 1))
        if kind == "op":
            op = self.random.choice(("add", "sub", "mul", "and", "or", "xor", "less", "equal", "shl", "shr"))
            return (op, self.expression(width, seen, barred, depth + 1),
                    self.expression(width, seen, barred, depth + 1))
        if kind == "int" or not names:
            return num(self.random.choice((0, 1, 2, 2 ** width - 1, self.random.randrange(2 ** width))) % 2 ** width)
        name = self.random.choice(sorted(names))
        if kind == "var":
            return var(name)
        return cell(name, self.expression(width, seen, barred, depth + 1))

    def place(self, width, seen, barred):
        name = self.random.choice(sorted(n for n in seen if n not in barred))
        if seen[name] == 0:
            return var(name)
        return cell(name, self.expression(width, seen, set(barred) | {name}, 1))

    def late_test(self, early):
        """Often the same expression once more, so that many runs go on."""
        return early if self.random.random() < 0.5 else num(self.random.randrange(2))

    def statement(self, width, seen, callable_procedures, depth):
        kinds = ["change"] * 4 + ["swap", "skip"]
        if depth < 3:
            kinds += ["if", "if", "loop", "local"]
        if callable_procedures:
            kinds += ["call", "call"]
        kind = self.random.choice(kinds)
        if kind == "skip":
            return SKIP
        if kind == "change":
            place = self.place(width, seen, ())
            return (self.random.choice(SIMPLE_WORDS), place, self.expression(width, seen, {place[1]}))
        if kind == "swap":
            return self.swap(width, seen)
        if kind == "call":
            return self.call(seen, callable_procedures)
        e = self.expression(width, seen, ())
        if kind == "local":
            name = self.random.choice([n for n in ("t", "u", "v", "w") if n not in seen] or ["zz%d" % depth])
            if name in seen:
                return SKIP
            body = self.body(width, dict(seen, **{name: 0}), callable_procedures, depth + 1)
            return ("local", name, e, body, self.late_test(e))
        first = self.body(width, seen, callable_procedures, depth + 1)
        second = self.body(width, seen, callable_procedures, depth + 1)
        return (kind, e, first, second, self.late_test(e))

    def swap(self, width, seen):
        first = self.random.choice(sorted(seen))
        others = [n for n in sorted(seen) if n != first]
        if not others:
            return SKIP
        second = self.random.choice(others)
        barred = {first, second}
        places = [var(n) if seen[n] == 0 else cell(n, self.expression(width, seen, barred, 1))
                  for n in (first, second)]
        return ("swap", places[0], places[1])

    def call(self, seen, callable_procedures):
        name, params = self.random.choice(callable_procedures)
        names = []
        for _, size in params:
            fitting = [n for n in sorted(seen) if seen[n] == size and n not in names]
            if not fitting:
                return SKIP
            names.append(self.random.choice(fitting))
        return (self.random.choice(("call", "uncall")), name, tuple(names))

    def body(self, width, seen, callable_procedures, depth):
        count = self.random.randrange(1, 5 if depth == 0 else 3)
        return tuple(self.statement(width, seen, callable_procedures, depth) for _ in range(count))

    def program(self):
        width = self.random.choice((1, 2, 3, 8, 32))
        declared = (("a", 0), ("b", 0), ("c", 0), ("r", 3), ("s", 2))
        first = (("x", 0), ("y", 0))
        second = (("x", 0), ("m", 3))
        calls = [("one", first), ("two", second)]
        main = ("main", (), self.body(width, dict(declared), calls, 0))
        one = ("one", first, self.body(width, dict(first), calls, 1))
        two = ("two", second, self.body(width, dict(second), [], 1))
        return (width, declared, (one, main, two))

    def store(self, made):
        width = made[0]

        def word():
            return self.random.choice((0, 0, 1, self.random.randrange(2 ** width)))
        return tuple((n, word() if size == 0 else tuple(word() for _ in range(size))) for n, size in made[1])
