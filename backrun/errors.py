"""The errors of the package."""


class BackrunError(ValueError):
    """The base of all errors of the package."""


class TextError(BackrunError):
    """A text that cannot be read; at is the offset where reading stopped."""

    def __init__(self, at):
        BackrunError.__init__(self, f"the text cannot go on like this at offset {at}")
        self.at = at


class StepError(BackrunError):
    """A step, or a change between steps, that cannot be done."""


class PackError(BackrunError):
    """Bytes that cannot be unpacked, from index at on, or a value that cannot be packed (-1)."""

    def __init__(self, at):
        BackrunError.__init__(self, f"packing or unpacking stopped at {at}")
        self.at = at


class ChainError(BackrunError):
    """A chain that cannot be pebbled with the pebbles there are."""


class CodeError(BackrunError):
    """A text of a machine's code that cannot be read; line is the number of the line, counted from 1."""

    def __init__(self, line):
        BackrunError.__init__(self, f"line {line} cannot be read as code")
        self.line = line


class NoCircuit(BackrunError):
    """A program for which there is no circuit: too wide, with loops, or with calls that lead back."""
