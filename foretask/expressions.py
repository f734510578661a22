"""Reading expressions. Inside this file a read part is a pair: its tree, and how many levels the tree has."""

from foretask.bounds import LEVELS_OF_TREE
from foretask.levels import BETWEEN, MINUS, NOT, TERM, WEAKEST, left_level
from foretask.reader import TOO_DEEP, refuse

CONSTANTS = {"none": ("none",), "true": ("bool", True), "false": ("bool", False)}
NO_OPERATOR = -1


def read_expression(reader):
    """Returns the tree of the expression that begins here."""
    tree, _ = read_level(reader, WEAKEST)
    return tree


def read_path(reader):
    """Returns the tree of the path that begins here with a name."""
    tree, _ = read_parts(reader, ("name", reader.expect_name()), 1)
    return tree


def read_level(reader, lowest):
    """Reads an expression of a level as far as it goes."""
    tree, height, level = read_first(reader, lowest)
    while True:
        operator = reader.token()
        found = operator_level(operator)
        if found < lowest or level < left_level(found):
            return tree, height
        reader.take()
        right, right_height = read_level(reader, found + 1)
        height = raised(operator, max(height, right_height))
        tree = joined(operator[1], tree, right)
        level = found


def operator_level(token):
    """Returns the level of an operator between two operands, less than all levels for other tokens."""
    if token[0] not in ("sign", "word"):
        return NO_OPERATOR
    return BETWEEN.get(token[1], NO_OPERATOR)


def joined(operator, left, right):
    if operator in ("and", "or"):
        return (operator, left, right)
    return ("both", operator, left, right)


def raised(token, height):
    """Returns the levels of a tree whose highest part has this height; token is where too many are told."""
    if height >= LEVELS_OF_TREE:
        refuse(token, TOO_DEEP)
    return height + 1


def read_first(reader, lowest):
    """Reads the first operand of an expression; returns its tree, its height and its level."""
    # Where a stronger operand must stand, a not begins no expression: the term below refuses it.
    nots = read_prefixes(reader, "not") if lowest <= NOT else []
    if nots:
        tree, height = wrapped("not", nots, read_level(reader, NOT + 1))
        return tree, height, NOT
    signs = read_prefixes(reader, "-")
    if signs:
        tree, height = wrapped("minus", signs, read_term(reader))
        return tree, height, MINUS
    tree, height = read_term(reader)
    return tree, height, TERM


def read_prefixes(reader, operator):
    found = []
    while reader.sees(operator):
        found.append(reader.take_prefix())
    return found


def wrapped(kind, operators, part):
    """Returns the part with the operators around it, the last one innermost."""
    tree, height = part
    for token in reversed(operators):
        height = raised(token, height)
        tree = (kind, tree)
    return tree, height


def read_term(reader):
    tree, height = read_beginning(reader)
    return read_parts(reader, tree, height)


def read_beginning(reader):
    """Reads a term up to its first field or item."""
    token = reader.token()
    kind, value = token[0], token[1]
    if kind in ("number", "text"):
        reader.take()
        return ("const", ("int" if kind == "number" else "text", value)), 1
    if kind == "name":
        reader.take()
        return ("name", value), 1
    if kind == "word" and value in CONSTANTS:
        reader.take()
        return ("const", CONSTANTS[value]), 1
    if reader.sees("("):
        return read_bracketed(reader)
    if reader.accept("new"):
        return read_new(reader), 1
    if reader.sees("array") or reader.sees("size"):
        return read_measured(reader)
    return refuse(token, "expected an expression")


def read_bracketed(reader):
    reader.open_bracket("(")
    part = read_level(reader, WEAKEST)
    reader.close_bracket(")")
    return part


def read_new(reader):
    name = reader.expect_name()
    reader.expect("(")
    reader.expect(")")
    return ("new", name)


def read_measured(reader):
    """Reads array or size with what stands in its parentheses."""
    keyword = reader.take()
    reader.open_bracket("(")
    tree, height = read_level(reader, WEAKEST)
    height = raised(keyword, height)
    reader.close_bracket(")")
    return (keyword[1], tree), height


def read_parts(reader, tree, height):
    """Reads the fields and items that follow a tree."""
    while True:
        sign = reader.token()
        if reader.accept("."):
            name = reader.expect_name()
            height = raised(sign, height)
            tree = ("field", tree, name)
        elif reader.sees("["):
            reader.open_bracket("[")
            index, index_height = read_level(reader, WEAKEST)
            height = raised(sign, max(height, index_height))
            reader.close_bracket("]")
            tree = ("item", tree, index)
        else:
            return tree, height
