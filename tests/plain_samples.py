"""Ordinary programs for the tests: short ways to write them, random ones, and a second way to run them."""

import random

from backrun.words import compute
from tests.samples import num, var


def put(name, e):
    return ("set", name, e)


A, B, C = var("a"), var("b"), var("c")


def cell_free_ops():
    return ("add", "sub", "mul", "and", "or", "xor", "less", "equal", "shl", "shr")


def nested_ifs(depth, inside=()):
    body = tuple(inside)
    for _ in range(depth):
        body = (("if", num(1), body, ()),)
    return body


class NoFuel(Exception):
    pass


class ByTheWords:
    """Does statements as the document tells it."""

    def __init__(self, program, values, fuel):
        self.width, names, inputs, _, _ = program
        self.look = dict.fromkeys(names, 0)
        self.look.update(zip(inputs, values))
        self.fuel = fuel
        self.steps = self.marks = 0

    def step(self):
        if self.steps == self.fuel:
            raise NoFuel
        self.steps += 1

    def value(self, e):
        if e[0] == "int":
            return e[1]
        if e[0] == "var":
            return self.look[e[1]]
        if e[0] == "not":
            return int(not self.value(e[1]))
        return compute(e[0], self.width, self.value(e[1]), self.value(e[2]))

    def body(self, body):
        for statement in body:
            self.step()
            if statement[0] == "set":
                self.look[statement[1]] = self.value(statement[2])
            elif statement[0] == "if":
                self.body(statement[2] if self.value(statement[1]) else statement[3])
            else:
                while self.value(statement[1]):
                    self.body(statement[2])
                    self.step()
            self.marks += 1


def by_the_words(program, values, fuel):
    words = ByTheWords(program, values, fuel)
    try:
        words.body(program[4])
        end = ("done",)
    except NoFuel:
        end = ("none",)
    return tuple(words.look[name] for name in program[3]), end, words.steps, words.marks


class PlainMaker:
    """Makes random ordinary programs without faults."""

    def __init__(self, seed):
        self.random = random.Random(seed)

    def expression(self, width, names, depth=0):
        kind = self.random.choice(("int", "var", "var", "op", "not") if depth < 3 else ("int", "var"))
        if kind == "int":
            return num(self.random.randrange(2 ** width))
        if kind == "var":
            return var(self.random.choice(names))
        if kind == "not":
            return ("not", self.expression(width, names, depth + 1))
        return (self.random.choice(cell_free_ops()), self.expression(width, names, depth + 1),
                self.expression(width, names, depth + 1))

    def body(self, width, names, depth):
        return tuple(self.statement(width, names, depth) for _ in range(self.random.randrange(0 if depth else 1, 4)))

    def statement(self, width, names, depth):
        kind = self.random.choice(("set", "set", "set", "if", "while") if depth < 3 else ("set",))
        e = self.expression(width, names)
        if kind == "set":
            return put(self.random.choice(names), e)
        if kind == "if":
            return ("if", e, self.body(width, names, depth + 1), self.body(width, names, depth + 1))
        return ("while", e, self.body(width, names, depth + 1))

    def program(self):
        width = self.random.choice((1, 2, 3, 4, 8, 32))
        names = ("a", "b", "c", "d")[:self.random.randrange(1, 5)]
        inputs = tuple(self.random.sample(names, self.random.randrange(len(names) + 1)))
        outputs = tuple(self.random.sample(names, self.random.randrange(len(names) + 1)))
        return (width, names, inputs, outputs, self.body(width, names, 0))

    def values(self, program):
        top = 2 ** program[0] - 1
        return tuple(self.random.choice((0, 1, top, self.random.randint(0, top))) for _ in program[2])
