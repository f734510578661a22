"""Operators: each gives ("ok", value) or ("error", words)."""

from foretask.bounds import INTEGER, RUN_CHARACTERS

KIND = ("error", "kind")
# The operators that both does not have: the one that is used instead, with opposite behind it.
OPPOSITES = {">": "<=", ">=": "<", "!=": "=="}


def both(op, a, b):
    """Returns what an operator with two operands gives."""
    if op == "==":
        return ("ok", ("bool", a == b))
    if op == "&":
        return together(a, b)
    if a[0] != "int" or b[0] != "int":
        return KIND
    if op in ("<", "<="):
        return ("ok", ("bool", a[1] < b[1] if op == "<" else a[1] <= b[1]))
    if op in ("/", "mod"):
        return divided(op, a[1], b[1])
    return bounded(computed(op, a[1], b[1]))


def together(a, b):
    if a[0] != "text" or b[0] != "text":
        return KIND
    characters = a[1] + b[1]
    if len(characters) > RUN_CHARACTERS:
        return ("error", "size")
    return ("ok", ("text", characters))


def divided(op, left, right):
    if right == 0:
        return ("error", "division by zero")
    return ("ok", ("int", left // right if op == "/" else left % right))


def computed(op, left, right):
    if op == "+":
        return left + right
    if op == "-":
        return left - right
    return left * right


def bounded(number):
    if abs(number) >= INTEGER:
        return ("error", "overflow")
    return ("ok", ("int", number))


def negative(a):
    """Returns what a minus before its operand gives."""
    if a[0] != "int":
        return KIND
    return ("ok", ("int", -a[1]))


def opposite(a):
    """Returns what not gives."""
    if a[0] != "bool":
        return KIND
    return ("ok", ("bool", not a[1]))


def truth(a):
    """Returns ("ok", True) or ("ok", False) for a bool."""
    if a[0] != "bool":
        return KIND
    return ("ok", a[1])
