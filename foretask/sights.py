"""What is known in the body of a loop whenever a turn of it comes to an instruction. A sight is a pair: what is known
of the operands that the turn has made, the last one first, each ("turn", n), ("number", n) or ("any",); and the
variables that the turn has stored. Each function of the table returns the pairs (address, sight) that an instruction
at an address makes from a sight, None if it is not allowed."""

ANY = ("any",)
# How many operands an instruction takes that goes on at the next address, and how many unknown ones it puts.
COUNTS = {
    "not": (1, 1), "size": (1, 1), "sized": (1, 1), "kind": (1, 2), "item": (3, 1), "set_item": (4, 0),
    "print": (1, 0), "drop": (1, 0),
}


def operand(sight, number):
    """Returns what is known of an operand; the last one has the number 0."""
    operands, _ = sight
    return operands[number] if number < len(operands) else ANY


def changed(sight, taken, put):
    """Returns the sight without so many operands, and with these on top."""
    operands, stored = sight
    return (put + operands[taken:], stored)


def see_push(body, at, sight):
    value = body.code[at][1]
    known = ("number", value[1]) if value[0] == "int" else ANY
    return [(at + 1, changed(sight, 0, (known,)))]


def see_load(body, at, sight):
    variable = body.code[at][1]
    # Another turn may have stored a variable with this number, unless this one has done it since.
    if variable not in sight[1] and variable[1] in body.stored:
        return None
    return [(at + 1, changed(sight, 0, (ANY,)))]


def see_store(body, at, sight):
    operands, stored = changed(sight, 1, ())
    variable = body.code[at][1]
    if variable not in stored:
        stored = stored + (variable,)
    return [(at + 1, (operands, stored))]


def see_counter(body, at, sight):
    known = ("turn", 0) if body.code[at][1] == 0 else ANY
    return [(at + 1, changed(sight, 0, (known,)))]


def see_minus(body, at, sight):
    kind = operand(sight, 0)[0]
    known = ("number", -operand(sight, 0)[1]) if kind == "number" else ANY
    return [(at + 1, changed(sight, 1, (known,)))]


def see_both(body, at, sight):
    known = computed(body.code[at][1], operand(sight, 1), operand(sight, 0))
    return [(at + 1, changed(sight, 2, (known,)))]


def computed(op, left, right):
    """Returns what is known of what an operator gives."""
    kinds = (left[0], right[0])
    if op == "+" and kinds in (("turn", "number"), ("number", "turn")):
        return ("turn", left[1] + right[1])
    if op == "-" and kinds == ("turn", "number"):
        return ("turn", left[1] - right[1])
    return ANY


def see_jump(body, at, sight):
    return [(body.code[at][1], sight)]


def see_jump_not(body, at, sight):
    after = changed(sight, 1, ())
    return [(at + 1, after), (body.code[at][1], after)]


def see_choice(body, at, sight):
    """Tells of and_jump and or_jump."""
    return [(at + 1, changed(sight, 1, ())), (body.code[at][1], changed(sight, 1, (ANY,)))]


def see_counted(body, at, sight):
    """Tells of an instruction that only takes and puts operands."""
    taken, put = COUNTS[body.code[at][0]]
    return [(at + 1, changed(sight, taken, (ANY,) * put))]


SEEING = {
    "push": see_push, "load": see_load, "store": see_store, "counter": see_counter, "minus": see_minus,
    "both": see_both, "jump": see_jump, "jump_not": see_jump_not, "and_jump": see_choice, "or_jump": see_choice,
    "not": see_counted, "size": see_counted, "sized": see_counted, "kind": see_counted, "item": see_counted,
    "set_item": see_counted, "print": see_counted, "drop": see_counted,
}


def made_sights(body, at, sight):
    """Returns the pairs (address, sight) of the instruction at an address, None if it is not allowed."""
    kind = body.code[at][0]
    if kind not in SEEING:
        return None
    see = SEEING[kind]
    return see(body, at, sight)


def merged(known, sight):
    """Returns what two sights of one address both know; None if they do not have equally many operands."""
    if len(known[0]) != len(sight[0]):
        return None
    operands = [one if one == other else ANY for one, other in zip(known[0], sight[0])]
    return (tuple(operands), tuple([variable for variable in known[1] if variable in sight[1]]))
