"""What happens to the memory when the turn of a task comes."""

from foretask.memory import put_value
from foretask.serial import value_of


def first_wrong(readings, memory):
    """Returns the number of the first reading whose place holds another value; -1 if there is none."""
    for number, (place, value, _) in enumerate(readings):
        if value_of(memory, place) != value:
            return number
    return -1


def publish(memory, writes):
    """Lets the writes of a run come into the memory."""
    for place, value in writes:
        put_value(memory, place, value)
