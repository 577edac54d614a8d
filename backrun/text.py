"""The text of a program: writing and reading it."""

from backrun.reader import Reader
from backrun.tokens import OP_SIGNS
from backrun.words import OPS

CHANGE_SIGNS = {"plus": "+=", "minus": "-=", "xor": "^=", "swap": "<=>"}


def read_program(text):
    """The program that a text shows."""
    reader = Reader(text)
    return reader.read_whole()


def show_program(program):
    """The text of a program."""
    width, declared, procedures = program
    lines = [f"width {width}", " ".join(["vars"] + [show_declaration(item) for item in declared])]
    for name, params, body in procedures:
        shown = ", ".join([show_declaration(item) for item in params])
        lines.append(f"proc {name}({shown})")
        lines.extend(body_lines(body, "  "))
        lines.append("end")
    return "".join([line + "\n" for line in lines])


def show_declaration(declaration):
    """A variable's name, or an array's name with its size."""
    name, size = declaration
    return f"{name}[{size}]" if size else name


def show_expression(e):
    """The text of an expression or a place."""
    word = e[0]
    if word == "int":
        return str(e[1])
    if word == "var":
        return e[1]
    if word == "cell":
        return f"{e[1]}[{show_expression(e[2])}]"
    if word == "not":
        return "!" + show_expression(e[1])
    return f"({show_expression(e[1])} {OP_SIGNS[OPS.index(word)]} {show_expression(e[2])})"


def body_lines(body, indent):
    """The lines of a body, each with the indent ahead."""
    lines = []
    for statement in body:
        lines.extend(statement_lines(statement, indent))
    return lines


def statement_lines(statement, indent):
    """The lines of a statement, each with the indent ahead."""
    word = statement[0]
    if word == "if":
        return branch_lines(statement, indent, ("if", "then", "else", "fi"))
    if word == "loop":
        return branch_lines(statement, indent, ("from", "do", "loop", "until"))
    if word == "local":
        return local_lines(statement, indent)
    if word == "skip":
        return [indent + word]
    if word == "call" or word == "uncall":
        names = ", ".join(statement[2])
        return [f"{indent}{word} {statement[1]}({names})"]
    first, second = show_expression(statement[1]), show_expression(statement[2])
    return [f"{indent}{first} {CHANGE_SIGNS[word]} {second}"]


def branch_lines(statement, indent, words):
    """The lines of an if or a loop, with the four words that stand in it."""
    _, early, first, second, late = statement
    begin, middle, between, last = words
    lines = [f"{indent}{begin} {show_expression(early)} {middle}"]
    lines.extend(body_lines(first, indent + "  "))
    lines.append(indent + between)
    lines.extend(body_lines(second, indent + "  "))
    lines.append(f"{indent}{last} {show_expression(late)}")
    return lines


def local_lines(statement, indent):
    """The lines of a local."""
    _, name, early, body, late = statement
    lines = [f"{indent}local {name} = {show_expression(early)} in"]
    lines.extend(body_lines(body, indent + "  "))
    lines.append(f"{indent}delocal {name} = {show_expression(late)}")
    return lines
