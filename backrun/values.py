"""Values: the word that an expression gives."""

from backrun.words import compute


def value_of(w, e, look):
    """The word of an expression; look has the word, or the list of words, of each name."""
    word = e[0]
    if word == "int":
        return e[1]
    if word == "var":
        return look[e[1]]
    if word == "cell":
        return look[e[1]][cell_index(w, e, look)]
    if word == "not":
        return 1 if value_of(w, e[1], look) == 0 else 0
    return compute(word, w, value_of(w, e[1], look), value_of(w, e[2], look))


def cell_index(w, e, look):
    """Which cell of its array an expression ("cell", name, index) means."""
    return value_of(w, e[2], look) % len(look[e[1]])
