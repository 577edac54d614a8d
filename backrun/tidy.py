"""Steps that change a program, but not what its runs do, and a way to find such steps."""

from backrun.folding import fold_once, fold_steps
from backrun.forms import is_count
from backrun.inverse import inverse_statement
from backrun.programs import bodies, expressions, find_statement, mentions
from backrun.rebuild import replace_body, replace_statements
from backrun.words import top

CHANGES = ("plus", "minus", "xor")
SIMPLE = ("plus", "minus", "xor", "swap", "skip")
ZERO = ("int", 0)


def apply_step(program, step):
    """The program behind a step of any kind of value, or None if the step is refused."""
    if not is_step(step):
        return None
    path = step[1]
    statement = find_statement(program, path)
    if statement is None:
        return None
    count = 1
    if step[0] == "fold":
        instead = fold_once(program[0], statement, step[2])
    elif step[0] == "drop":
        instead = () if is_idle(statement) else None
    else:
        count = 2
        follower = find_statement(program, path[:-1] + (path[-1] + 1,))
        instead = change_pair(program[0], step[0], statement, follower)
    if instead is None:
        return None
    return replace_statements(program, path, count, instead)


def is_step(value):
    """Whether a value of any kind has the form of a step."""
    if not isinstance(value, tuple) or len(value) < 2 or not is_tuple_of_indices(value[1]):
        return False
    if value[0] == "fold":
        return len(value) == 3 and is_tuple_of_indices(value[2])
    return len(value) == 2 and value[0] in ("cancel", "exchange", "merge", "drop")


def is_tuple_of_indices(value):
    """Whether a value is a tuple of integers from 0."""
    if not isinstance(value, tuple):
        return False
    return all(is_count(item) for item in value)


def is_idle(statement):
    """Whether a statement changes nothing, whatever the store is."""
    return statement[0] == "skip" or statement[0] in CHANGES and statement[2] == ZERO


def change_pair(width, word, statement, follower):
    """What two neighbours become by a cancel, an exchange or a merge; None if it is refused."""
    if follower is None or statement[0] not in SIMPLE or follower[0] not in SIMPLE:
        return None
    if word == "cancel":
        return () if inverse_statement(statement) == follower else None
    if word == "exchange":
        return (follower, statement) if are_apart(statement, follower) else None
    return merged(width, statement, follower)


def are_apart(first, second):
    """Whether neither of two simple statements touches a name that the other one touches or looks at."""
    first_named, second_named = named_in(first), named_in(second)
    if any(name in second_named for name in touched_by(first)):
        return False
    return not any(name in first_named for name in touched_by(second))


def touched_by(statement):
    """The names of the places that a simple statement changes."""
    if statement[0] in CHANGES:
        return [statement[1][1]]
    return [place[1] for place in expressions(statement)]


def named_in(statement):
    """All names that a simple statement touches or looks at."""
    return [name for part in expressions(statement) for name in mentions(part)]


def merged(width, first, second):
    """The one statement, in a tuple, that does the same as two of numbers at one place; or None."""
    for statement in (first, second):
        if statement[0] not in ("plus", "minus") or statement[2][0] != "int":
            return None
    if first[1] != second[1]:
        return None
    total = (signed_number(first) + signed_number(second)) & top(width)
    return (("plus", first[1], ("int", total)),)


def signed_number(statement):
    """The number that a plus or minus of a number adds."""
    number = statement[2][1]
    return number if statement[0] == "plus" else -number


def check_steps(program, steps):
    """The pair (program, -1) behind all steps of a tuple, or (None, i) for the first one that is refused."""
    for at, step in enumerate(steps):
        program = apply_step(program, step)
        if program is None:
            return None, at
    return program, -1


def tidy(program):
    """The tuple of steps of the kinds cancel, merge, drop and fold, behind which none of them is accepted."""
    steps = []
    for at, procedure in enumerate(program[2]):
        tidy_body(program[0], procedure[2], (at,), steps)
    return tuple(steps)


def tidy_body(width, body, prefix, steps):
    """The body behind all steps in it, which are noted."""
    # What is kept stands ahead of the statement that is looked at, so their number is its index.
    kept = []
    for statement in body:
        inside = tidy_inside(width, statement, prefix + (len(kept),), steps)
        keep_statement(width, kept, inside, prefix, steps)
    return tuple(kept)


def tidy_inside(width, statement, path, steps):
    """The statement behind all steps in its expression or its bodies, which are noted."""
    if statement[0] in CHANGES:
        places, expression = fold_steps(width, statement[2], ())
        steps.extend([("fold", path, place) for place in places])
        return (statement[0], statement[1], expression)
    changed = statement
    for branch, body in enumerate(bodies(statement)):
        changed = replace_body(changed, branch, tidy_body(width, body, path + (branch,), steps))
    return changed


def keep_statement(width, kept, statement, prefix, steps):
    """Add a statement to those that are kept, unless it can be dropped or joined to the last of them."""
    while not is_idle(statement):
        last = kept[-1] if kept else None
        path = prefix + (len(kept) - 1,)
        if change_pair(width, "cancel", statement, last) is not None:
            steps.append(("cancel", path))
            kept.pop()
            return
        instead = change_pair(width, "merge", statement, last)
        if instead is None:
            kept.append(statement)
            return
        # What two become may be joined to the one ahead of them, or change nothing.
        steps.append(("merge", path))
        kept.pop()
        statement = instead[0]
    steps.append(("drop", prefix + (len(kept),)))
