"""What names mean: the variables of blocks, and the counters around a place."""


def variables_of(block, parameters):
    """Returns the tuple of the variables of a block with parameters, in the order of their numbers."""
    names = list(parameters)
    add_variables(names, block)
    return tuple(names)


def add_variables(names, block):
    for statement in block:
        kind = statement[0]
        if kind == "var":
            add_name(names, statement[2])
        elif kind == "if":
            add_variables(names, statement[3])
            add_variables(names, statement[4])
        elif kind == "while":
            add_variables(names, statement[3])
        elif kind == "for":
            add_variables(names, statement[5])
        elif kind == "try":
            add_variables(names, statement[2])
            add_name(names, statement[3])
            add_variables(names, statement[4])


def add_name(names, name):
    if name not in names:
        names.append(name)


class Scope:
    """A place in a program: own are the variables of the procedure around it, None if there is none; top are
    those of the program; counters those of the for statements around it, the innermost first."""

    def __init__(self, own, top, counters, looped):
        self.own = own
        self.top = top
        self.counters = counters
        self.looped = looped

    def within_for(self, counter):
        return Scope(self.own, self.top, (counter,) + self.counters, True)

    def within_while(self):
        return Scope(self.own, self.top, self.counters, True)

    def meaning(self, name):
        """Returns the counter or the variable that a name means, as its instructions tell it; None if nothing."""
        if name in self.counters:
            return ("counter", self.counters.index(name))
        if self.own is not None and name in self.own:
            return ("own", self.own.index(name))
        if name in self.top:
            return ("top", self.top.index(name))
        return None


def scope_of(own, top):
    """Returns the scope at the beginning of a procedure with these variables, or of the program's block."""
    return Scope(own, top, (), False)
