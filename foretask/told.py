"""The steps of the sequential run, with their lines."""

from foretask.serial import Serial, next_action, serial_step


def line_of(program, local):
    """Returns the line of the next instruction of a local state."""
    return program.lines[local[0]]


def steps_told(program, inputs, limit):
    """Returns (task, line, action) for each of the first steps of the sequential run."""
    run = Serial(program, inputs)
    rows = []
    for _ in range(limit):
        told = next_action(run)
        if told is None:
            return rows
        rows.append((run.task, line_of(program, run.local), told))
        serial_step(run)
    return rows
