"""The forms of the machine's instructions."""

from backrun.forms import begins_with_word, is_count, is_integer
from backrun.words import top

REGISTERS = 16
WORD_BITS = 32
FARTHEST = 2147483648

# What the parts behind an instruction's word are: r a register, n a data word, m a word of 32 bits, o an offset,
# k an integer from 0.
PARTS = {
    "add": "rr", "sub": "rr", "xor": "rr", "addi": "rn", "xori": "rn",
    "and": "rrr", "or": "rrr", "mul": "rrr", "less": "rrr", "equal": "rrr", "shl": "rrr", "shr": "rrr",
    "rem": "rrr", "differ": "rrr", "test": "rr", "swap": "rr", "exch": "rr", "addr": "rr", "subr": "rr",
    "addl": "rm", "neg": "r", "over": "rrm", "swapbr": "r", "bra": "o", "brz": "ro", "brn": "ro", "rbra": "o",
    "skip": "", "halt": "", "fail": "k",
}


def instruction_fault(value, width):
    """The code of the first fault of a value of any kind as an instruction, or None if it has none."""
    if not begins_with_word(value) or value[0] not in PARTS or len(PARTS[value[0]]) + 1 != len(value):
        return "op"
    kinds = PARTS[value[0]]
    registers = [part for kind, part in zip(kinds, value[1:]) if kind == "r"]
    if not all([is_integer(part, 0, REGISTERS - 1) for part in registers]):
        return "register"
    # What is changed is never what it is changed by; only two that are looked at may be the same.
    if registers and registers[0] in registers[1:]:
        return "same"
    if not all([is_number_of(kind, part, width) for kind, part in zip(kinds, value[1:])]):
        return "number"
    return None


def is_number_of(kind, part, width):
    """Whether a part of an instruction is within the bounds of its kind, if that is one of numbers."""
    if kind == "n":
        return is_integer(part, 0, top(width))
    if kind == "m":
        return is_integer(part, 0, top(WORD_BITS))
    if kind == "o":
        return is_integer(part, -FARTHEST, FARTHEST - 1)
    return kind == "r" or is_count(part)
