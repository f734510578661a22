"""What follows a local state. A local state is (address, operands, frame, top, control)."""

from foretask.leaving import thrown


def gone_on(local, operands):
    """Returns the local state at the next address with these operands."""
    return gone_to(local, local[0] + 1, operands)


def gone_to(local, address, operands):
    """Returns the local state at an address with these operands."""
    _, _, frame, top, control = local
    return (address, operands, frame, top, control)


def controlled(local, operands, control):
    """Returns the local state at the next address with these operands and this control."""
    address, _, frame, top, _ = local
    return (address + 1, operands, frame, top, control)


def fault(local, words):
    """Returns the action of an error in a local state."""
    return thrown(local, ("text", words))


def put(local, value, operands):
    """Returns the quiet action that puts a value on top of these operands."""
    return ("quiet", gone_on(local, (value,) + operands))


def put_answer(local, answer, operands):
    """Returns the action that puts what an operator gave on top of these operands, or that of its error."""
    said, found = answer
    if said == "error":
        return fault(local, found)
    return put(local, found, operands)
