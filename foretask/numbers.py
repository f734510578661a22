"""Machines as rows of integers. Each function but the last one adds the numbers of one thing to a row."""

# The first number of a value or of an entry of a control is the place of its kind here.
VALUES = ("none", "bool", "int", "text", "object")
ENTRIES = ("call", "cut", "guard", "loop", "count")


def add_list(row, things, add):
    """Adds how many things there are, and then each of them."""
    row.append(len(things))
    for thing in things:
        add(row, thing)


def add_number(row, number):
    row.append(number)


def add_task(row, task):
    add_list(row, task, add_number)


def add_object(row, thing):
    _, task, number = thing
    add_task(row, task)
    row.append(number)


def add_place(row, place):
    task, number, cell = place
    add_task(row, task)
    row.extend([number, cell])


def add_character(row, character):
    row.append(ord(character))


def add_value(row, value):
    kind = value[0]
    row.append(VALUES.index(kind))
    if kind == "bool":
        row.append(1 if value[1] else 0)
    elif kind == "int":
        row.append(value[1])
    elif kind == "text":
        add_list(row, value[1], add_character)
    elif kind == "object":
        add_object(row, value)


def add_pair(row, pair):
    place, value = pair
    add_place(row, place)
    add_value(row, value)


def add_entry(row, entry):
    kind = entry[0]
    row.append(ENTRIES.index(kind))
    if kind in ("call", "guard"):
        row.append(entry[1])
        add_object(row, entry[2])
    else:
        # The other entries have nothing but numbers behind their kind.
        row.extend(list(entry[1:]))


def add_local(row, local):
    address, operands, frame, top, control = local
    row.append(address)
    add_list(row, operands, add_value)
    add_object(row, frame)
    add_object(row, top)
    add_list(row, control, add_entry)


def add_run(row, run):
    local, writes, made, spawned, steps = run
    add_local(row, local)
    add_list(row, writes, add_pair)
    row.extend([made, spawned, steps])


def add_reading(row, reading):
    place, value, run = reading
    add_place(row, place)
    add_value(row, value)
    add_run(row, run)


def add_behind(row, behind):
    """Adds a task behind the first one."""
    name, begin, run, readings = behind
    add_task(row, name)
    add_local(row, begin)
    add_run(row, run)
    add_list(row, readings, add_reading)


def add_end(row, ended):
    """Adds how a machine has ended."""
    if ended is None:
        row.append(0)
    elif ended[0] == "done":
        row.append(1)
    else:
        row.append(2)
        add_value(row, ended[1])


def image(machine):
    """Returns the image of a machine, a tuple of integers."""
    row = []
    add_list(row, [(place, machine.memory[place]) for place in sorted(machine.memory)], add_pair)
    add_list(row, machine.out, add_value)
    add_list(row, machine.left, add_value)
    add_task(row, machine.task)
    add_local(row, machine.local)
    row.extend([machine.made, machine.spawned])
    add_list(row, machine.behind, add_behind)
    add_end(row, machine.ended)
    row.extend([machine.moment, machine.work, machine.vain])
    return tuple(row)
