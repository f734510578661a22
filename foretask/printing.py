"""The printed form of trees. The functions of the tables return the text of an expression, or add the lines
of a statement to a row of lines; margin is the row of spaces before the statement."""

from foretask.levels import BETWEEN, MINUS, NOT, TERM, WEAKEST, left_level
from foretask.strings import shown_value
from foretask.values import NOTHING

STEP = "  "


def show(tree):
    """Returns the printed form of the tree of a program."""
    _, records, procedures, block = tree
    lines = []
    for _, name, fields in records:
        lines.append("record " + with_list(name, fields) + ";")
    for _, name, parameters, body in procedures:
        lines.append("proc " + with_list(name, parameters) + " {")
        show_block(lines, "", body)
        lines.append("}")
    show_statements(lines, "", block)
    return "".join([line + "\n" for line in lines])


def with_list(name, parts):
    """Returns a name with these texts in parentheses behind it."""
    return name + "(" + ", ".join(parts) + ")"


def show_expression(tree):
    """Returns the printed form of the tree of an expression."""
    action = EXPRESSIONS[tree[0]]
    return action(tree)


def operand(tree, lowest):
    """Returns a part of an expression, in parentheses if its level is less than its place allows."""
    shown = show_expression(tree)
    if level_of(tree) < lowest:
        return "(" + shown + ")"
    return shown


def level_of(tree):
    kind = tree[0]
    if kind == "both":
        return BETWEEN[tree[1]]
    if kind in BETWEEN:
        return BETWEEN[kind]
    if kind == "not":
        return NOT
    if kind == "minus" or is_below_zero(tree):
        return MINUS
    return TERM


def is_below_zero(tree):
    return tree[0] == "const" and tree[1][0] == "int" and tree[1][1] < 0


def show_const(tree):
    return shown_value(tree[1])


def show_name(tree):
    return tree[1]


def show_not(tree):
    return "not " + operand(tree[1], NOT)


def show_minus(tree):
    return "-" + operand(tree[1], MINUS)


def show_both(tree):
    _, operator, left, right = tree
    return between(operator, left, right)


def show_choice(tree):
    operator, left, right = tree
    return between(operator, left, right)


def between(operator, left, right):
    level = BETWEEN[operator]
    return operand(left, left_level(level)) + " " + operator + " " + operand(right, level + 1)


def show_field(tree):
    return shown_field(tree[1], tree[2])


def show_item(tree):
    return shown_item(tree[1], tree[2])


def shown_field(thing, name):
    return operand(thing, TERM) + "." + name


def shown_item(thing, number):
    return operand(thing, TERM) + "[" + operand(number, WEAKEST) + "]"


def show_new(tree):
    return "new " + with_list(tree[1], ())


def show_measured(tree):
    return with_list(tree[0], [show_expression(tree[1])])


EXPRESSIONS = {
    "const": show_const, "name": show_name, "not": show_not, "minus": show_minus, "both": show_both,
    "and": show_choice, "or": show_choice, "field": show_field, "item": show_item, "new": show_new,
    "size": show_measured, "array": show_measured,
}


def show_statements(lines, margin, block):
    for statement in block:
        action = STATEMENTS[statement[0]]
        action(lines, margin, statement)


def show_block(lines, margin, block):
    """Adds the statements of a block that belongs to a statement with this margin."""
    show_statements(lines, margin + STEP, block)


def call_text(name, arguments, ahead):
    shown = with_list(name, [show_expression(part) for part in arguments])
    return "ahead " + shown if ahead else shown


def right_text(right):
    if right[0] == "read":
        return "read()"
    if right[0] == "call":
        _, name, arguments, ahead = right
        return call_text(name, arguments, ahead)
    return show_expression(right[1])


def show_var(lines, margin, statement):
    _, _, name, right = statement
    lines.append(margin + "var " + name + " = " + right_text(right) + ";")


def show_set(lines, margin, statement):
    _, _, name, right = statement
    lines.append(margin + name + " = " + right_text(right) + ";")


def show_set_field(lines, margin, statement):
    _, _, thing, name, value = statement
    lines.append(margin + shown_field(thing, name) + " = " + show_expression(value) + ";")


def show_set_item(lines, margin, statement):
    _, _, thing, number, value = statement
    lines.append(margin + shown_item(thing, number) + " = " + show_expression(value) + ";")


def show_call(lines, margin, statement):
    _, _, name, arguments, ahead = statement
    lines.append(margin + call_text(name, arguments, ahead) + ";")


def show_if(lines, margin, statement):
    _, _, test, yes, no = statement
    lines.append(margin + "if (" + show_expression(test) + ") {")
    show_block(lines, margin, yes)
    if no:
        lines.append(margin + "} else {")
        show_block(lines, margin, no)
    lines.append(margin + "}")


def show_while(lines, margin, statement):
    _, _, test, block = statement
    lines.append(margin + "while (" + show_expression(test) + ") {")
    show_block(lines, margin, block)
    lines.append(margin + "}")


def show_for(lines, margin, statement):
    _, _, counter, low, high, block, ahead = statement
    bounds = show_expression(low) + " to " + show_expression(high)
    first = "ahead for (" if ahead else "for ("
    lines.append(margin + first + counter + " = " + bounds + ") {")
    show_block(lines, margin, block)
    lines.append(margin + "}")


def show_return(lines, margin, statement):
    if statement[2] == NOTHING:
        lines.append(margin + "return;")
    else:
        show_keyword(lines, margin, statement)


def show_keyword(lines, margin, statement):
    """Adds a statement that consists of a keyword and an expression."""
    lines.append(margin + statement[0] + " " + show_expression(statement[2]) + ";")


def show_break(lines, margin, statement):
    lines.append(margin + statement[0] + ";")


def show_try(lines, margin, statement):
    _, _, block, name, handler = statement
    lines.append(margin + "try {")
    show_block(lines, margin, block)
    lines.append(margin + "} catch (" + name + ") {")
    show_block(lines, margin, handler)
    lines.append(margin + "}")


STATEMENTS = {
    "var": show_var, "set": show_set, "set_field": show_set_field, "set_item": show_set_item, "call": show_call,
    "if": show_if, "while": show_while, "for": show_for, "return": show_return, "break": show_break,
    "throw": show_keyword, "try": show_try, "print": show_keyword,
}
