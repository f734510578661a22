"""Taking every ahead away from a program."""


def without_ahead(tree):
    """Returns the tree of the same program with False for every ahead."""
    _, records, procedures, block = tree
    bare = tuple([(line, name, parameters, bare_block(body)) for line, name, parameters, body in procedures])
    return ("program", records, bare, bare_block(block))


def bare_block(block):
    return tuple([bare_statement(statement) for statement in block])


def bare_statement(statement):
    kind = statement[0]
    if kind in ("var", "set"):
        _, line, name, right = statement
        return (kind, line, name, bare_right(right))
    if kind == "call":
        _, line, name, arguments, _ = statement
        return (kind, line, name, arguments, False)
    if kind == "if":
        _, line, test, yes, no = statement
        return (kind, line, test, bare_block(yes), bare_block(no))
    if kind == "while":
        _, line, test, block = statement
        return (kind, line, test, bare_block(block))
    if kind == "for":
        _, line, counter, low, high, block, _ = statement
        return (kind, line, counter, low, high, bare_block(block), False)
    if kind == "try":
        _, line, block, name, handler = statement
        return (kind, line, bare_block(block), name, bare_block(handler))
    return statement


def bare_right(right):
    if right[0] != "call":
        return right
    _, name, arguments, _ = right
    return ("call", name, arguments, False)
