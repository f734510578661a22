"""Leaving what waits in the control of a local state."""

# The entries among which each way of leaving looks for the innermost one.
FITTING = {"call": ("call",), "loop": ("loop", "count"), "guard": ("guard",)}


def leave(control, what):
    """Returns (cuts, entry, rest): how many cuts are further in than the entry that is found, this entry, and the
    entries around it; None and () if no entry fits."""
    fitting = FITTING[what]
    cuts = 0
    for at, entry in enumerate(control):
        if entry[0] in fitting:
            return (cuts, entry, control[at + 1:])
        if entry[0] == "cut":
            cuts += 1
    return (cuts, None, ())


def passing(cuts, after):
    """Returns the action that passes this many cuts on the way to a local state."""
    if cuts > 0:
        return ("give_up", cuts, after)
    return ("quiet", after)


def thrown(local, value):
    """Returns the action of an exception value in a local state."""
    _, _, _, top, control = local
    cuts, entry, rest = leave(control, "guard")
    if entry is None:
        return ("fail", value)
    _, address, frame = entry
    return passing(cuts, (address, (value,), frame, top, rest))
