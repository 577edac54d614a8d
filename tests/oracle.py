"""A second way to run a program, written as plainly as the document tells it, to compare with."""

from backrun.words import compute


class Stop(Exception):
    def __init__(self, end):
        super().__init__(end)
        self.end = end


class Cell:
    """A variable that may go by several names."""

    def __init__(self, word):
        self.word = word


class Oracle:
    """Does statements as they stand; backward it does the inverse of each one at its own path."""

    def __init__(self, program, store, fuel):
        self.width, self.declared, procedures = program
        self.procedures = {p[0]: (k, p) for k, p in enumerate(procedures)}
        self.fuel = fuel
        self.paths = []
        self.globals = {n: [Cell(x) for x in v] if isinstance(v, tuple) else Cell(v) for n, v in store}

    def run(self, backward):
        try:
            self.procedure("main", self.globals, backward)
            end = ("done",)
        except Stop as stop:
            end = stop.end
        store = tuple((n, tuple(c.word for c in self.globals[n]) if size else self.globals[n].word)
                      for n, size in self.declared)
        return store, end, len(self.paths)

    def step(self, path):
        if len(self.paths) >= self.fuel:
            raise Stop(("none",))
        self.paths.append(path)

    def value(self, e, env):
        if e[0] == "int":
            return e[1]
        if e[0] in ("var", "cell"):
            return self.place(e, env).word
        if e[0] == "not":
            return int(self.value(e[1], env) == 0)
        return compute(e[0], self.width, self.value(e[1], env), self.value(e[2], env))

    def place(self, e, env):
        if e[0] == "var":
            return env[e[1]]
        cells = env[e[1]]
        return cells[self.value(e[2], env) % len(cells)]

    def procedure(self, name, env, backward):
        k, procedure = self.procedures[name]
        self.body(procedure[2], (k,), env, backward)

    def body(self, body, prefix, env, backward):
        rows = list(enumerate(body))
        for at, statement in rows[::-1] if backward else rows:
            self.statement(statement, prefix + (at,), env, backward)

    def statement(self, s, path, env, backward):
        self.step(path)
        word = s[0]
        if word in ("plus", "minus", "xor"):
            place, word_now = self.place(s[1], env), self.value(s[2], env)
            if word == "xor":
                place.word ^= word_now
            else:
                sign = 1 if (word == "plus") != backward else -1
                place.word = (place.word + sign * word_now) % 2 ** self.width
        elif word == "swap":
            one, two = self.place(s[1], env), self.place(s[2], env)
            one.word, two.word = two.word, one.word
        elif word in ("call", "uncall"):
            params = self.procedures[s[1]][1][1]
            inner = {p[0]: env[n] for p, n in zip(params, s[2])}
            self.procedure(s[1], inner, backward != (word == "uncall"))
        elif word == "local":
            early, late = (s[4], s[2]) if backward else (s[2], s[4])
            inner = dict(env)
            inner[s[1]] = Cell(self.value(early, env))
            self.body(s[3], path + (0,), inner, backward)
            if inner[s[1]].word != self.value(late, env):
                raise Stop(("fail", "local", path))
        elif word == "if":
            self.branch(s, path, env, backward)
        elif word == "loop":
            self.loop(s, path, env, backward)

    def branch(self, s, path, env, backward):
        early, late = (s[4], s[1]) if backward else (s[1], s[4])
        if self.value(early, env):
            self.body(s[2], path + (0,), env, backward)
            good = self.value(late, env) != 0
        else:
            self.body(s[3], path + (1,), env, backward)
            good = self.value(late, env) == 0
        if not good:
            raise Stop(("fail", "exit", path))

    def loop(self, s, path, env, backward):
        early, late = (s[4], s[1]) if backward else (s[1], s[4])
        if not self.value(early, env):
            raise Stop(("fail", "entry", path))
        self.body(s[2], path + (0,), env, backward)
        while not self.value(late, env):
            self.body(s[3], path + (1,), env, backward)
            if self.value(early, env):
                raise Stop(("fail", "entry", path))
            self.step(path)
            self.body(s[2], path + (0,), env, backward)
