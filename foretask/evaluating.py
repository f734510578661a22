"""The meaning of expressions. Each function of the table returns the value of an expression in a run, at a place."""

from foretask.cells import array_size, field_cell, item_cell
from foretask.errors import ForetaskError
from foretask.operators import OPPOSITES, both, negative, opposite, truth
from foretask.scopes import variables_of
from foretask.values import NONE

KIND = ("text", "kind")


class Thrown(ForetaskError):
    """An exception of a program is on its way. It never leaves the functions of the interface."""

    def __init__(self, value):
        super().__init__("an exception of a program")
        self.value = value


class Run:
    """A run of a tree. A procedure is a row of (parameters, variables, block); an object is the list of its cells,
    things are the objects by their numbers; fuel is the number of units that are left."""

    def __init__(self, tree, inputs, fuel):
        _, records, procedures, block = tree
        self.records = tuple([(name, fields) for _, name, fields in records])
        self.fields = {name: fields for _, name, fields in records}
        self.procedures = {
            name: (parameters, variables_of(body, parameters), body) for _, name, parameters, body in procedures
        }
        self.top = unassigned(variables_of(block, ()))
        self.things = []
        self.out = []
        self.left = list(inputs)
        self.fuel = fuel

    def add_thing(self, held, count):
        """Adds an object that holds a value in cell 0 and NONE in this many further cells, and returns it."""
        self.things.append([held] + [NONE] * count)
        return ("object", (), len(self.things) - 1)


class Spot:
    """A place in a run: own are the variables of the call that runs, None outside of procedures; counters the pairs
    (name, integer) of the for statements around it, the innermost first; calls how many calls are running."""

    def __init__(self, own, counters, calls):
        self.own = own
        self.counters = counters
        self.calls = calls

    def within_turn(self, counter, number):
        return Spot(self.own, ((counter, number),) + self.counters, self.calls)


def unassigned(names):
    """Returns the variables with these names at their beginning."""
    return {name: NONE for name in names}


def variables_with(run, spot, name):
    """Returns the variables among which a name is that means no counter."""
    if spot.own is not None and name in spot.own:
        return spot.own
    return run.top


def checked(answer):
    """Returns what an answer is if it is ok; its error is an exception."""
    said, found = answer
    if said == "error":
        raise Thrown(("text", found))
    return found


def cells_of(run, value):
    """Returns the cells of an object."""
    if value[0] != "object":
        raise Thrown(KIND)
    return run.things[value[2]]


def evaluate(run, spot, tree):
    act = EXPRESSIONS[tree[0]]
    return act(run, spot, tree)


def constant_value(run, spot, tree):
    return tree[1]


def name_value(run, spot, tree):
    name = tree[1]
    for counter, number in spot.counters:
        if counter == name:
            return ("int", number)
    variables = variables_with(run, spot, name)
    return variables[name]


def not_value(run, spot, tree):
    return checked(opposite(evaluate(run, spot, tree[1])))


def minus_value(run, spot, tree):
    return checked(negative(evaluate(run, spot, tree[1])))


def both_value(run, spot, tree):
    _, op, left, right = tree
    a = evaluate(run, spot, left)
    b = evaluate(run, spot, right)
    if op in OPPOSITES:
        return checked(opposite(checked(both(OPPOSITES[op], a, b))))
    return checked(both(op, a, b))


def choice_value(run, spot, tree):
    """Returns the value of and or or: that of the left part if it decides, otherwise that of the right part."""
    kind, left, right = tree
    value = evaluate(run, spot, left)
    if checked(truth(value)) == (kind == "or"):
        return value
    return evaluate(run, spot, right)


def field_value(run, spot, tree):
    _, thing, name = tree
    cells = cells_of(run, evaluate(run, spot, thing))
    return cells[checked(field_cell(run.records, cells[0], name))]


def item_value(run, spot, tree):
    _, thing, number = tree
    cells = cells_of(run, evaluate(run, spot, thing))
    at = evaluate(run, spot, number)
    return cells[checked(item_cell(cells[0], at))]


def size_value(run, spot, tree):
    value = evaluate(run, spot, tree[1])
    if value[0] == "text":
        return ("int", len(value[1]))
    held = cells_of(run, value)[0]
    if held[0] != "int":
        raise Thrown(KIND)
    return held


def new_value(run, spot, tree):
    name = tree[1]
    return run.add_thing(("text", name), len(run.fields[name]))


def array_value(run, spot, tree):
    held = checked(array_size(evaluate(run, spot, tree[1])))
    return run.add_thing(held, held[1])


EXPRESSIONS = {
    "const": constant_value, "name": name_value, "not": not_value, "minus": minus_value, "both": both_value,
    "and": choice_value, "or": choice_value, "field": field_value, "item": item_value, "size": size_value,
    "new": new_value, "array": array_value,
}
