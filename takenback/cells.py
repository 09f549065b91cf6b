"""What is in the cells: what the steps that are there make, from noughts."""

from takenback.kinds import ADD, CELLS, COPY, EXCHANGE, IF_NOUGHT, PUT, SUM

NUMBERS = 4294967296


def contents(steps):
    held = [0 for cell in range(CELLS)]
    for step in steps:
        if step.is_there:
            perform(step, held)
    return held


def perform(step, held):
    a = step.cells[0]
    b = step.cells[1]
    if step.kind == PUT:
        held[a] = step.v
    elif step.kind == ADD:
        held[a] = (held[a] + step.v) % NUMBERS
    elif step.kind == COPY:
        held[b] = held[a]
    elif step.kind == SUM:
        held[step.cells[2]] = (held[a] + held[b]) % NUMBERS
    elif step.kind == EXCHANGE:
        before = held[a]
        held[a] = held[b]
        held[b] = before
    elif step.kind == IF_NOUGHT and held[a] == 0:
        held[b] = step.v
