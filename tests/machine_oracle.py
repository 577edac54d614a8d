"""A second way to take a step of the machine, written as plainly as the document tells it, to compare with."""

ALL = 2 ** 32


def shifted(x, y, width):
    return 0 if y >= width else x << y


OF_TWO = {
    "and": lambda x, y, w: x & y,
    "or": lambda x, y, w: x | y,
    "mul": lambda x, y, w: x * y % 2 ** w,
    "less": lambda x, y, w: int(x < y),
    "equal": lambda x, y, w: int(x == y),
    "shl": lambda x, y, w: shifted(x, y, w) % 2 ** w,
    "shr": lambda x, y, w: 0 if y >= w else x >> y,
    "rem": lambda x, y, w: x % y if y else 0,
    "differ": lambda x, y, w: int(x != y),
}


def oracle_step(machine, state):
    """The state behind a step; what is undone is what the table tells, told the other way round."""
    width, code = machine
    registers, pc, br, direction, memory = state
    r, memory = list(registers), list(memory)
    instruction = code[pc] if pc < len(code) else ("skip",)
    word, part = instruction[0], instruction[1:]
    forward = direction == 1

    def low(at):
        return r[at] % 2 ** width

    def put(at, value):
        r[at] = r[at] - low(at) + value % 2 ** width

    if word in ("add", "sub"):
        put(part[0], low(part[0]) + low(part[1]) if (word == "add") == forward else low(part[0]) - low(part[1]))
    elif word == "xor":
        put(part[0], low(part[0]) ^ low(part[1]))
    elif word == "addi":
        put(part[0], low(part[0]) + part[1] if forward else low(part[0]) - part[1])
    elif word == "xori":
        put(part[0], low(part[0]) ^ part[1])
    elif word in OF_TWO:
        put(part[0], low(part[0]) ^ OF_TWO[word](low(part[1]), low(part[2]), width))
    elif word == "test":
        put(part[0], low(part[0]) ^ int(low(part[1]) != 0))
    elif word == "swap":
        r[part[0]], r[part[1]] = r[part[1]], r[part[0]]
    elif word == "exch":
        at = r[part[1]] % len(memory)
        r[part[0]], memory[at] = memory[at], r[part[0]]
    elif word in ("addr", "subr"):
        sign = 1 if (word == "addr") == forward else -1
        r[part[0]] = (r[part[0]] + sign * r[part[1]]) % ALL
    elif word == "addl":
        r[part[0]] = (r[part[0]] + part[1] * direction) % ALL
    elif word == "neg":
        r[part[0]] = -r[part[0]] % ALL
    elif word == "over":
        put(part[0], low(part[0]) ^ int(r[part[1]] >= part[2]))
    elif word == "swapbr":
        r[part[0]], br = br, r[part[0]]
    elif word == "bra" or word == "brz" and low(part[0]) == 0 or word == "brn" and low(part[0]) != 0:
        br = (br + part[-1] * direction) % ALL
    elif word == "rbra":
        br = -(br + part[0]) % ALL if forward else (part[0] - br) % ALL
        direction = -direction
    pc = (pc + direction * (br if br != 0 else 1)) % ALL
    return tuple(r), pc, br, direction, tuple(memory)
