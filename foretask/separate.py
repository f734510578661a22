"""Loops with ahead whose turns can't disturb what other turns read."""

from foretask.sights import made_sights, merged, operand

# The number of the operand that is the index; the last operand has the number 0.
INDEXES = {"item": 0, "set_item": 1}
NAMING = ("jump", "jump_not", "and_jump", "or_jump", "guard", "loop", "each", "test", "next", "spawn")
REASONS = {
    "load": "variable", "item": "index", "set_item": "index", "call": "call", "loop": "loop", "each": "loop",
    "guard": "try", "field": "field", "set_field": "field", "make": "new", "check_size": "new", "input": "read",
    "throw": "throw", "return": "return", "break": "break",
}


class Body:
    """The body of a loop, from the address first up to the finish, which does not belong to it: stored has the
    numbers of the variables that it stores as its keys."""

    def __init__(self, code, first, finish):
        self.code = code
        self.first = first
        self.finish = finish
        self.stored = {code[at][1][1]: True for at in range(first, finish) if code[at][0] == "store"}


def separate_loops(program):
    """Returns (line, True), or (line, False, at, why), for each loop with ahead, in the order of their code."""
    tests = [test for test in range(1, len(program.code) - 1) if is_test(program.code, test)]
    return tuple([told_of(program, test) for test in tests])


def is_test(code, test):
    """Tells whether the instruction at an address is the test of a loop with ahead."""
    if (code[test - 1][0], code[test][0], code[test + 1][0]) != ("each", "test", "spawn"):
        return False
    behind = code[test + 1][1]
    return behind < len(code) and code[behind] == ("next", test)


def told_of(program, test):
    """Returns what is told of the loop with this test."""
    code = program.code
    line = program.lines[test - 1]
    body = Body(code, test + 2, code[test + 1][1] - 1)
    indexes, fault = go_through(body)
    stops = [stop_of(indexes, fault, shift) for shift in shifts_of(body)]
    if None in stops and not named_from_outside(body):
        return (line, True)
    # The first of the shifts is 0.
    if stops[0] is None:
        return (line, False, line, "loop")
    return (line, False, program.lines[stops[0]], REASONS.get(code[stops[0]][0], "flow"))


def shifts_of(body):
    """Returns the shifts with which a loop may be separate."""
    shifts = [0]
    for at in range(body.first, body.finish):
        if body.code[at][0] == "push" and body.code[at][1][0] == "int":
            shifts.extend([body.code[at][1][1], -body.code[at][1][1]])
    return shifts


def go_through(body):
    """Goes through the addresses of a body, whatever the shift is: returns the pairs (address, what is known of the
    index) of the items that a turn comes to, and the first address that can't be passed, None if all can."""
    sights = {body.first: ((), ())}
    indexes = []
    for at in range(body.first, body.finish):
        if at in sights:
            kind = body.code[at][0]
            if kind in INDEXES:
                indexes.append((at, operand(sights[at], INDEXES[kind])))
            made = made_sights(body, at, sights[at])
            if made is None or not all_fit(body, sights, at, made):
                return indexes, at
    return indexes, None


def all_fit(body, sights, at, made):
    """Lets sights come from an address to others, and tells whether all of them fit there."""
    for address, sight in made:
        if address <= at or address > body.finish:
            return False
        if address in sights:
            sights[address] = merged(sights[address], sight)
        else:
            sights[address] = sight
        if sights[address] is None:
            return False
    return True


def stop_of(indexes, fault, shift):
    """Returns the first address that can't be passed with a shift, None if all can."""
    for at, known in indexes:
        if known != ("turn", shift):
            return at
    return fault


def named_from_outside(body):
    """Tells whether an instruction that does not belong to the loop names an address in it."""
    spawn = body.first - 1
    test = spawn - 1
    for at, instruction in enumerate(body.code):
        inside = at in (test, spawn) or body.first <= at < body.finish
        if not inside and instruction[0] in NAMING and spawn <= instruction[1] <= body.finish:
            return True
    return False
