"""Changing what places hold. A memory has no entry for a place that holds NONE."""

from foretask.values import NONE


def put_value(memory, place, value):
    """Lets a place hold a value."""
    if value != NONE:
        memory[place] = value
    elif place in memory:
        del memory[place]
