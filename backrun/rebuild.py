"""Programs with other statements in a place."""


def replace_statements(program, path, count, instead):
    """The program in which other statements stand instead of count ones from a path on."""
    width, declared, procedures = program
    at = path[0]
    name, params, body = procedures[at]
    changed = (name, params, replace_below(body, path[1:], count, instead))
    return (width, declared, procedures[:at] + (changed,) + procedures[at + 1:])


def replace_below(body, way, count, instead):
    """The body in which other statements stand; way is the rest of the path, from an index in the body on."""
    at = way[0]
    if len(way) == 1:
        return body[:at] + instead + body[at + count:]
    statement = body[at]
    branch = way[1]
    inner = replace_below(statement[body_index(statement) + branch], way[2:], count, instead)
    return body[:at] + (replace_body(statement, branch, inner),) + body[at + 1:]


def replace_body(statement, branch, body):
    """The statement with another first or second body."""
    at = body_index(statement) + branch
    return statement[:at] + (body,) + statement[at + 1:]


def body_index(statement):
    """Where the first body stands in a statement."""
    return 3 if statement[0] == "local" else 2
