"""The actions of the instructions that make objects, or read and write their cells. Each function of the table
returns the action of a local state at its instruction, in a program."""

from foretask.cells import field_cell, item_cell
from foretask.states import fault, gone_on, put


def place_in(thing, cell):
    """Returns the place of a cell of an object."""
    _, task, number = thing
    return (task, number, cell)


def place_of(local, variable):
    """Returns the place of a variable."""
    kind, number = variable
    _, _, frame, top, _ = local
    return place_in(frame if kind == "own" else top, number)


def do_load(program, local, instruction):
    return ("read", place_of(local, instruction[1]), gone_on(local, local[1]))


def do_store(program, local, instruction):
    operands = local[1]
    return ("write", place_of(local, instruction[1]), operands[0], gone_on(local, operands[1:]))


def do_kind(program, local, instruction):
    operands = local[1]
    if operands[0][0] != "object":
        return fault(local, "kind")
    return ("read", place_in(operands[0], 0), gone_on(local, operands))


def read_cell(local, thing, answer, operands):
    """Returns the action that reads the cell of an object that was found, or that of the error."""
    said, found = answer
    if said == "error":
        return fault(local, found)
    return ("read", place_in(thing, found), gone_on(local, operands))


def write_cell(local, thing, answer, value, operands):
    """Returns the action that writes the cell of an object that was found, or that of the error."""
    said, found = answer
    if said == "error":
        return fault(local, found)
    return ("write", place_in(thing, found), value, gone_on(local, operands))


def do_field(program, local, instruction):
    operands = local[1]
    held, thing = operands[:2]
    return read_cell(local, thing, field_cell(program.records, held, instruction[1]), operands[2:])


def do_item(program, local, instruction):
    operands = local[1]
    at, held, thing = operands[:3]
    return read_cell(local, thing, item_cell(held, at), operands[3:])


def do_set_field(program, local, instruction):
    operands = local[1]
    value, held, thing = operands[:3]
    return write_cell(local, thing, field_cell(program.records, held, instruction[1]), value, operands[3:])


def do_set_item(program, local, instruction):
    operands = local[1]
    value, at, held, thing = operands[:4]
    return write_cell(local, thing, item_cell(held, at), value, operands[4:])


def do_size(program, local, instruction):
    operands = local[1]
    value = operands[0]
    if value[0] == "text":
        return put(local, ("int", len(value[1])), operands[1:])
    if value[0] == "object":
        return ("read", place_in(value, 0), gone_on(local, operands[1:]))
    return fault(local, "kind")


def do_make(program, local, instruction):
    return ("make", "operand", gone_on(local, local[1]))


def do_tag(program, local, instruction):
    operands = local[1]
    return ("write", place_in(operands[0], 0), ("text", instruction[1]), gone_on(local, operands))


def do_tag_size(program, local, instruction):
    operands = local[1]
    thing, count = operands[:2]
    return ("write", place_in(thing, 0), count, gone_on(local, (thing,) + operands[2:]))


def do_enter(program, local, instruction):
    return ("make", "both", gone_on(local, local[1]))


REACHING = {
    "load": do_load, "store": do_store, "kind": do_kind, "field": do_field, "item": do_item,
    "set_field": do_set_field, "set_item": do_set_item, "size": do_size, "make": do_make, "tag": do_tag,
    "tag_size": do_tag_size, "enter": do_enter,
}
