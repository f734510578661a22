"""Reading things from a row of integers. Each function of the second part returns the next thing of the row."""

from foretask.bounds import INTEGER, RUN_CHARACTERS
from foretask.errors import BadImage
from foretask.numbers import ENTRIES, VALUES
from foretask.values import NONE

# The characters that a text may have.
CHARACTERS = (
    "\n !\"#$&'()*+,-./0123456789:;<=>?@ABCDEFGHIJKLMNOPQRSTUVWXYZ[\\]^_`abcdefghijklmnopqrstuvwxyz{|}~"
)


class Row:
    """A row of integers that is being read: the place reached in it. Characters has the characters by numbers."""

    def __init__(self, numbers):
        self.numbers = numbers
        self.at = 0
        self.characters = {ord(character): character for character in CHARACTERS}

    def any_number(self):
        """Returns the next number, which may be below 0."""
        if self.at >= len(self.numbers):
            raise BadImage(len(self.numbers))
        self.at += 1
        return self.numbers[self.at - 1]

    def refuse(self):
        """Raises BadImage for the number that was read last."""
        raise BadImage(self.at - 1)

    def natural(self):
        """Returns the next number, which must be at least 0."""
        number = self.any_number()
        if number < 0:
            self.refuse()
        return number

    def up_to(self, most):
        """Returns the next number, which must be from 0 to the most."""
        number = self.natural()
        if number > most:
            self.refuse()
        return number


def take_many(row, count, take):
    return tuple([take(row) for _ in range(count)])


def take_list(row, take):
    """Returns the tuple of the things of a list; take returns one of them."""
    return take_many(row, row.natural(), take)


def take_natural(row):
    return row.natural()


def take_task(row):
    return take_list(row, take_natural)


def take_object(row):
    task = take_task(row)
    return ("object", task, row.natural())


def take_place(row):
    task = take_task(row)
    number = row.natural()
    return (task, number, row.natural())


def take_character(row):
    number = row.natural()
    if number not in row.characters:
        row.refuse()
    return row.characters[number]


def take_integer(row):
    number = row.any_number()
    if abs(number) >= INTEGER:
        row.refuse()
    return number


def take_value(row):
    kind = VALUES[row.up_to(len(VALUES) - 1)]
    if kind == "none":
        return NONE
    if kind == "bool":
        return ("bool", row.up_to(1) == 1)
    if kind == "int":
        return ("int", take_integer(row))
    if kind == "text":
        return ("text", "".join(take_many(row, row.up_to(RUN_CHARACTERS), take_character)))
    return take_object(row)


def take_entry(row):
    kind = ENTRIES[row.up_to(len(ENTRIES) - 1)]
    if kind == "cut":
        return ("cut",)
    address = row.natural()
    if kind == "loop":
        return ("loop", address)
    if kind == "count":
        counter = row.any_number()
        return ("count", address, counter, row.any_number())
    return (kind, address, take_object(row))


def take_local(row):
    address = row.natural()
    operands = take_list(row, take_value)
    frame = take_object(row)
    top = take_object(row)
    return (address, operands, frame, top, take_list(row, take_entry))


def take_writes(row):
    """Returns the writes of a run, whose places must be all different."""
    pairs = []
    places = {}
    for _ in range(row.natural()):
        begin = row.at
        place = take_place(row)
        value = take_value(row)
        if place in places:
            raise BadImage(begin)
        places[place] = True
        pairs.append((place, value))
    return tuple(pairs)


def take_run(row):
    local = take_local(row)
    writes = take_writes(row)
    made = row.natural()
    spawned = row.natural()
    return (local, writes, made, spawned, row.natural())


def take_reading(row):
    place = take_place(row)
    value = take_value(row)
    return (place, value, take_run(row))


def take_behind(row):
    """Returns a task behind the first one."""
    name = take_task(row)
    begin = take_local(row)
    run = take_run(row)
    return (name, begin, run, take_list(row, take_reading))


def take_memory(row):
    """Returns a memory, whose places must ascend, and none of which may hold NONE."""
    memory = {}
    before = None
    for _ in range(row.natural()):
        begin = row.at
        place = take_place(row)
        if before is not None and place <= before:
            raise BadImage(begin)
        kind = row.at
        memory[place] = take_value(row)
        if memory[place] == NONE:
            raise BadImage(kind)
        before = place
    return memory


def take_end(row):
    """Returns how a machine has ended."""
    number = row.up_to(2)
    if number == 0:
        return None
    return ("done",) if number == 1 else ("failed", take_value(row))
