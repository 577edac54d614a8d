"""The faults of a program: what is wrong with any plain value that is taken for one."""

from backrun.forms import has_body, is_declaration, is_integer, is_statement, is_too_deep
from backrun.programs import bodies, expressions, is_name, mentions, uses

MOST_WIDTH = 32


def faults(program):
    """The ascending list of the pairs (path, code) of all faults."""
    if not has_form(program):
        return [((), "form")]
    width, declared, procedures = program
    if not is_integer(width, 1, MOST_WIDTH):
        return [((), "width")]
    check = Check(width, declared)
    check.look_at_globals(declared)
    check.look_at_main(procedures)
    check.look_at_rows(procedures)
    for at, procedure in enumerate(procedures):
        if has_body(procedure):
            check.look_at_body(procedure[2], (at,), check.seen_in(at, procedure))
    return sorted(check.found)


def has_form(program):
    """Whether a value has the outer form of a program and nests no deeper than it may."""
    if not isinstance(program, tuple) or len(program) != 3:
        return False
    if not isinstance(program[1], tuple) or not isinstance(program[2], tuple):
        return False
    return not is_too_deep(program[2])


def is_procedure(value):
    """Whether a value is a procedure, whatever the other procedures and its statements are."""
    if not has_body(value) or not is_name(value[0]) or not isinstance(value[1], tuple):
        return False
    if not all(is_declaration(item) for item in value[1]):
        return False
    return len({item[0] for item in value[1]}) == len(value[1])


def first_sizes(declared):
    """The sizes of the names in a tuple of any values; where a name stands twice, the first one."""
    sizes = {}
    for item in declared:
        if is_declaration(item) and item[0] not in sizes:
            sizes[item[0]] = item[1]
    return sizes


def places_overlap(first, second):
    """Whether two places have one name, or an index of them mentions the name of one of them."""
    if first[1] == second[1]:
        return True
    # A name stands in front of its own place's uses once: any other time, it stands in an index.
    named = [name for place in (first, second) for _, name in uses(place)]
    return named.count(first[1]) > 1 or named.count(second[1]) > 1


def has_alias(statement):
    """Whether a statement has the fault alias."""
    word = statement[0]
    if word in ("plus", "minus", "xor"):
        _, place, expression = statement
        in_index = place[0] == "cell" and place[1] in mentions(place[2])
        return in_index or place[1] in mentions(expression)
    if word == "swap":
        return places_overlap(statement[1], statement[2])
    if word == "call" or word == "uncall":
        return len(set(statement[2])) < len(statement[2])
    if word == "local":
        _, name, early, _, late = statement
        return name in mentions(early) or name in mentions(late)
    return False


def sizes_fit(sizes, names, seen):
    """Whether names are as many as the sizes and of these sizes; a name that is not seen fits any."""
    if len(names) != len(sizes):
        return False
    return all([seen.get(name, size) == size for name, size in zip(names, sizes)])


class Check:
    """What was found in a program, and what must be known to look at its statements."""

    def __init__(self, width, declared):
        self.width = width
        self.global_sizes = first_sizes(declared)
        # By the names and by the numbers of the procedures whose own row is right: their params' sizes.
        self.sizes_by_name = {}
        self.sizes_by_number = {}
        self.found = {}

    def tell(self, path, code):
        """Note a fault."""
        self.found[(path, code)] = True

    def look_at_globals(self, declared):
        """Look for the fault global."""
        # A name that stands twice, or an item that is none, leaves fewer names than items.
        if len(self.global_sizes) < len(declared):
            self.tell((), "global")

    def look_at_main(self, procedures):
        """Look for the fault main."""
        mains = [item for item in procedures if is_procedure(item) and item[0] == "main"]
        if len(mains) != 1 or len(mains[0][1]) > 0:
            self.tell((), "main")

    def look_at_rows(self, procedures):
        """Look for the fault procedure, and note the sizes of all others."""
        for at, procedure in enumerate(procedures):
            if is_procedure(procedure) and procedure[0] not in self.sizes_by_name:
                sizes = first_sizes(procedure[1])
                self.sizes_by_name[procedure[0]] = list(sizes.values())
                self.sizes_by_number[at] = sizes
            else:
                self.tell((at,), "procedure")

    def seen_in(self, at, procedure):
        """The sizes of the names that a procedure sees at the beginning of its body."""
        if procedure[0] == "main":
            return self.global_sizes
        return self.sizes_by_number.get(at, {})

    def look_at_body(self, body, prefix, seen):
        """Look at the statements of a body; seen has the sizes of the names that are seen there."""
        for at, statement in enumerate(body):
            path = prefix + (at,)
            if is_statement(statement, self.width):
                self.look_at_statement(statement, path, seen)
            else:
                self.tell(path, "statement")

    def look_at_statement(self, statement, path, seen):
        """Look at a statement and at those within it."""
        for expression in expressions(statement):
            self.look_at_uses(expression, path, seen)
        if has_alias(statement):
            self.tell(path, "alias")
        inner = seen
        if statement[0] == "call" or statement[0] == "uncall":
            self.look_at_call(statement, path, seen)
        elif statement[0] == "local":
            if statement[1] in seen:
                self.tell(path, "hides")
            inner = dict(seen)
            inner[statement[1]] = 0
        for branch, body in enumerate(bodies(statement)):
            self.look_at_body(body, path + (branch,), inner)

    def look_at_uses(self, expression, path, seen):
        """Look for unknown names in an expression, and for names of the wrong size."""
        for word, name in uses(expression):
            if name not in seen:
                self.tell(path, "unknown")
            elif (word == "cell") != (seen[name] > 0):
                self.tell(path, "size")

    def look_at_call(self, statement, path, seen):
        """Look for unknown names in a call or uncall, and for names of the wrong size."""
        _, called, names = statement
        if not all(name in seen for name in names):
            self.tell(path, "unknown")
        if called == "main" or called not in self.sizes_by_name:
            self.tell(path, "unknown")
        elif not sizes_fit(self.sizes_by_name[called], names, seen):
            self.tell(path, "size")
