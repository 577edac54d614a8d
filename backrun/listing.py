"""The text of a machine's code: writing and reading it."""

from backrun.errors import CodeError
from backrun.forms import is_integer
from backrun.instructions import PARTS, WORD_BITS, instruction_fault

DIGITS = "0123456789"


def show_code(machine):
    """The text of a machine."""
    width, code = machine
    lines = [f"width {width}"] + [show_instruction(instruction) for instruction in code]
    return "".join([line + "\n" for line in lines])


def show_instruction(instruction):
    """The line of an instruction."""
    shown = [instruction[0]]
    for kind, part in zip(PARTS[instruction[0]], instruction[1:]):
        shown.append(f"r{part}" if kind == "r" else str(part))
    return " ".join(shown)


def read_code(text):
    """The machine that a text shows."""
    lines = lines_of(text)
    rows = [(at + 1, words_of(line)) for at, line in enumerate(lines)]
    told = [(line, words) for line, words in rows if words]
    if not any([words[0] == "width" for _, words in told]):
        # A line that is none is told ahead of what is missing; as long as no width is known, the greatest one counts.
        read_instructions(told, WORD_BITS)
        raise CodeError(len(lines) + 1)
    width = read_width(told[0])
    return (width, read_instructions(told[1:], width))


def lines_of(text):
    """The lines of a text; behind the last line feed none begins."""
    lines = text.split("\n")
    if lines[-1] == "":
        lines.pop()
    return lines


def words_of(line):
    """What stands between the blanks of a line, up to a remark."""
    words = []
    for word in line.split(" "):
        if word.startswith("#"):
            return words
        if word:
            words.append(word)
    return words


def read_width(row):
    """The width that is told by a row of the number of a line and its words."""
    line, words = row
    width = number_of(words[1]) if len(words) == 2 and words[0] == "width" else None
    if not is_integer(width, 1, WORD_BITS):
        raise CodeError(line)
    return width


def read_instructions(rows, width):
    """The tuple of the instructions that are told by rows of the number of a line and its words."""
    code = []
    for line, words in rows:
        instruction = instruction_of(words)
        if instruction_fault(instruction, width) is not None:
            raise CodeError(line)
        code.append(instruction)
    return tuple(code)


def instruction_of(words):
    """The instruction of which a line has these words; a part that cannot be read is None."""
    kinds = PARTS.get(words[0], "")
    instruction = [words[0]]
    for at, word in enumerate(words[1:]):
        is_register = at < len(kinds) and kinds[at] == "r"
        instruction.append(register_of(word) if is_register else number_of(word))
    return tuple(instruction)


def register_of(word):
    """The number of the register that a word names, or None if it names none."""
    number = number_of(word[1:])
    return number if word[0] == "r" else None


def number_of(word):
    """The number that a word shows, or None if it shows none."""
    digits = word[1:] if word.startswith("-") else word
    if digits == "" or not all(digit in DIGITS for digit in digits):
        return None
    # A number has one form only: without needless zeros, and 0 without a sign.
    if digits[0] == "0" and word != "0":
        return None
    # A text may show numbers that are longer than those that int takes.
    number = 0
    for digit in digits:
        number = number * 10 + DIGITS.index(digit)
    return -number if word.startswith("-") else number
