"""Pebbles on a chain of places, and chains of functions that are worked out along them."""

from backrun.errors import ChainError
from backrun.forms import is_integer
from backrun.values import value_of

# More moves than any row has that is asked for.
NEVER = 1000000000000


def is_pebbling(n, room, moves):
    """Whether moves lead from no pebble to one on place n alone, with never more than so many pebbles."""
    standing = {0: True}
    for move in moves:
        # The beginning of the chain counts as a place on which a pebble always stands.
        if not is_integer(move, -n, n) or abs(move) - 1 not in standing:
            return False
        if (move > 0) == (abs(move) in standing):
            return False
        if move > 0:
            standing[move] = True
        else:
            del standing[-move]
        if len(standing) - 1 > room:
            return False
    return len(standing) == 2 and n in standing


def least_moves(n, room):
    """The least number of moves of a row that is_pebbling takes, or -1 if there is none."""
    least = least_table(n, room)[room][n]
    return least if least < NEVER else -1


def pebbling(n, room):
    """A list of least_moves(n, room) moves that is_pebbling takes."""
    table = least_table(n, room)
    if table[room][n] >= NEVER:
        raise ChainError(f"{room} pebbles cannot lead to place {n}")
    moves = []
    # What is to be done, the next one at the end: from a place on, so many places further, by so many pebbles.
    waiting = [(0, n, room, True)]
    while waiting:
        place, length, pebbles, is_forward = waiting.pop()
        if length == 1:
            moves.append(place + 1 if is_forward else -place - 1)
            continue
        middle = best_middle(table, length, pebbles)
        rows = [
            (place, middle, pebbles, True),
            (place + middle, length - middle, pebbles - 1, is_forward),
            (place, middle, pebbles - 1, False),
        ]
        if not is_forward:
            rows = [(place, middle, pebbles - 1, True), rows[1], (place, middle, pebbles, False)]
        waiting.extend(rows[::-1])
    return moves


def least_table(n, room):
    """By the number of pebbles and of places: the least number of moves, at least NEVER if there are none.

    The best row goes to a place in the middle, from there with one pebble less to the end, and takes the pebble in the
    middle away with one less, too.
    """
    table = [[NEVER] * (n + 1)]
    for pebbles in range(1, room + 1):
        below = table[-1]
        row = [NEVER, 1]
        for length in range(2, n + 1):
            row.append(min([row[m] + below[length - m] + below[m] for m in range(1, length)] + [NEVER]))
        table.append(row)
    return table


def best_middle(table, length, pebbles):
    """The place in the middle of a best row."""
    row, below = table[pebbles], table[pebbles - 1]
    for middle in range(1, length):
        if row[middle] + below[length - middle] + below[middle] == row[length]:
            return middle
    return length


def chain_value(chain, word):
    """The word behind all functions of a chain."""
    width, functions = chain
    for function in functions:
        word = value_of(width, function, {"x": word})
    return word


def chain_program(chain, moves, room):
    """The program that works out a chain by the moves of a pebbling."""
    width, functions = chain
    slots = [f"back_s{at}" for at in range(room)]
    places = {0: "back_in"}
    body = []
    for move in moves:
        place = abs(move)
        if move > 0:
            taken = list(places.values())
            places[place] = [slot for slot in slots if slot not in taken][0]
        function = with_name(functions[place - 1], places[place - 1])
        body.append(("xor", ("var", places[place]), function))
        if move < 0:
            del places[place]
    body.append(("swap", ("var", places[len(functions)]), ("var", "back_out")))
    declared = tuple([(name, 0) for name in ["back_in", "back_out"] + slots])
    return (width, declared, (("main", (), tuple(body)),))


def with_name(e, name):
    """The expression in which a name stands for x."""
    if e[0] == "int":
        return e
    if e[0] == "var":
        return ("var", name)
    return (e[0],) + tuple([with_name(part, name) for part in e[1:]])
