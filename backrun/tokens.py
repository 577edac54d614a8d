"""The tokens of the text of a program."""

from backrun.programs import NAME_SIGNS

# A longer sign stands ahead of those that it begins with, so that the longest one is found first.
SIGNS = (
    "<=>", "+=", "-=", "^=", "<<", ">>",
    "+", "-", "*", "&", "|", "^", "<", "=", "!", "(", ")", "[", "]", ",",
)

# The signs of the ops, in the order of OPS.
OP_SIGNS = ("+", "-", "*", "&", "|", "^", "<", "=", "<<", ">>")


def tokens(text):
    """The list of pairs (token, offset); an empty token stands at the end, or at a sign that is none."""
    found = []
    at = behind_blanks(text, 0)
    length = token_length(text, at)
    while length > 0:
        found.append((text[at:at + length], at))
        at = behind_blanks(text, at + length)
        length = token_length(text, at)
    found.append(("", at))
    return found


def behind_blanks(text, at):
    """The offset behind the blanks, line feeds and remarks that stand at an offset."""
    while at < len(text) and text[at] in " \n#":
        at = behind_remark(text, at) if text[at] == "#" else at + 1
    return at


def behind_remark(text, at):
    """The offset of the end of the line."""
    end = text.find("\n", at)
    return len(text) if end < 0 else end


def token_length(text, at):
    """The length of the longest token at an offset, or 0 if none begins there."""
    end = at
    while end < len(text) and text[end] in NAME_SIGNS:
        end += 1
    if end > at:
        return end - at
    for sign in SIGNS:
        if text.startswith(sign, at):
            return len(sign)
    return 0
