"""The reader of the text of a program."""

from backrun.errors import TextError
from backrun.programs import DEPTH, is_name
from backrun.tokens import OP_SIGNS, tokens
from backrun.words import OPS

MOST_DIGITS = 10
CHANGES = {"+=": "plus", "-=": "minus", "^=": "xor"}


def is_number(token):
    """Whether a token is a number."""
    if not token.isdigit() or len(token) > MOST_DIGITS:
        return False
    return token == "0" or token[0] != "0"


class Reader:
    """Reads tokens one after the other; each method takes the tokens of what it is called for."""

    def __init__(self, text):
        self.text = text
        self.tokens = tokens(text)
        self.at = 0

    def peek(self):
        """The next token; it is empty at the end of the text, and at a sign that is none."""
        return self.tokens[self.at][0]

    def offset(self):
        """The offset of the next token."""
        return self.tokens[self.at][1]

    def require(self, fits):
        """Refuse the next token if it does not fit."""
        if not fits:
            raise TextError(self.offset())

    def take(self, token):
        """The next token, which must be this one."""
        self.require(self.peek() == token)
        self.at += 1
        return token

    def read_name(self):
        """A name."""
        self.require(is_name(self.peek()))
        return self.take(self.peek())

    def read_number(self):
        """A number."""
        self.require(is_number(self.peek()))
        return int(self.take(self.peek()))

    def read_whole(self):
        """A program, up to the end of the text."""
        self.take("width")
        width = self.read_number()
        self.take("vars")
        declared = []
        while is_name(self.peek()):
            declared.append(self.read_declaration())
        procedures = []
        while self.peek() == "proc":
            procedures.append(self.read_procedure())
        self.require(self.offset() == len(self.text))
        return (width, tuple(declared), tuple(procedures))

    def read_declaration(self):
        """A name with its size."""
        name = self.read_name()
        if self.peek() != "[":
            return (name, 0)
        self.take("[")
        size = self.read_number()
        self.take("]")
        return (name, size)

    def read_procedure(self):
        """A procedure."""
        self.take("proc")
        name = self.read_name()
        params = self.read_list(True)
        return (name, params, self.read_body("end", 1))

    def read_list(self, is_sized):
        """What stands in parentheses: declarations, or names alone."""
        found = []
        self.take("(")
        while self.peek() != ")":
            if found:
                self.take(",")
            found.append(self.read_declaration() if is_sized else self.read_name())
        self.take(")")
        return tuple(found)

    def read_body(self, last, depth):
        """The statements of a body, and the word behind it."""
        found = []
        while self.peek() != last:
            found.append(self.read_statement(depth))
        self.take(last)
        return tuple(found)

    def read_statement(self, depth):
        """A statement that nests so many deep."""
        self.require(depth <= DEPTH)
        word = self.peek()
        if word == "if":
            return self.read_branches("if", "then", "else", "fi", depth)
        if word == "from":
            return self.read_branches("from", "do", "loop", "until", depth)
        if word == "local":
            return self.read_local(depth)
        if word == "call" or word == "uncall":
            return self.read_call(word)
        if word == "skip":
            return (self.take("skip"),)
        return self.read_change()

    def read_branches(self, begin, middle, between, last, depth):
        """An if or a loop, with the four words that stand in it."""
        self.take(begin)
        early = self.read_expression(1)
        self.take(middle)
        first = self.read_body(between, depth + 1)
        second = self.read_body(last, depth + 1)
        word = "if" if begin == "if" else "loop"
        return (word, early, first, second, self.read_expression(1))

    def read_local(self, depth):
        """A local."""
        self.take("local")
        name = self.read_name()
        self.take("=")
        early = self.read_expression(1)
        self.take("in")
        body = self.read_body("delocal", depth + 1)
        self.take(name)
        self.take("=")
        return ("local", name, early, body, self.read_expression(1))

    def read_call(self, word):
        """A call or uncall."""
        self.take(word)
        called = self.read_name()
        return (word, called, self.read_list(False))

    def read_change(self):
        """A plus, minus, xor or swap."""
        place = self.read_place(1)
        sign = self.peek()
        if sign == "<=>":
            self.take(sign)
            return ("swap", place, self.read_place(1))
        self.require(sign in CHANGES)
        self.take(sign)
        return (CHANGES[sign], place, self.read_expression(1))

    def read_place(self, depth):
        """A name, or a name with an index."""
        name = self.read_name()
        if self.peek() != "[":
            return ("var", name)
        self.take("[")
        index = self.read_expression(depth + 1)
        self.take("]")
        return ("cell", name, index)

    def read_expression(self, depth):
        """An expression that nests so many deep."""
        self.require(depth <= DEPTH)
        token = self.peek()
        if is_number(token):
            return ("int", self.read_number())
        if token == "!":
            self.take("!")
            return ("not", self.read_expression(depth + 1))
        if token == "(":
            return self.read_operation(depth)
        return self.read_place(depth)

    def read_operation(self, depth):
        """Two expressions in parentheses, with the sign of an op between them."""
        self.take("(")
        first = self.read_expression(depth + 1)
        sign = self.peek()
        self.require(sign in OP_SIGNS)
        self.take(sign)
        second = self.read_expression(depth + 1)
        self.take(")")
        return (OPS[OP_SIGNS.index(sign)], first, second)
