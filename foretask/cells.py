"""Finding the cells of objects: each function gives ("ok", answer) or ("error", words)."""

from foretask.bounds import ITEMS

KIND = ("error", "kind")


def field_cell(records, held, name):
    """Returns the number of the cell of a field, in an object whose cell 0 holds this value."""
    for record, fields in records:
        if held == ("text", record) and name in fields:
            return ("ok", fields.index(name) + 1)
    return ("error", "field")


def item_cell(held, at):
    """Returns the number of the cell of an item, in an object whose cell 0 holds this value."""
    if held[0] != "int" or at[0] != "int":
        return KIND
    if at[1] < 0 or at[1] >= held[1]:
        return ("error", "index")
    return ("ok", at[1] + 1)


def array_size(value):
    """Returns the value, if an array may have this size."""
    if value[0] != "int":
        return KIND
    if value[1] < 0 or value[1] > ITEMS:
        return ("error", "size")
    return ("ok", value)
