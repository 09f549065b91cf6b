"""Steps, and which of them hang on which. A step's number is its index in the list of steps."""

from takenback.kinds import ADDS, READS, SETS


class Step:
    def __init__(self, who, kind, cells, v):
        self.who = who
        self.kind = kind
        self.cells = cells
        self.v = v
        self.reads = [cells[k] for k in READS[kind]]
        self.sets = [cells[k] for k in SETS[kind]]
        self.adds = [cells[k] for k in ADDS[kind]]
        self.is_there = True
        # The numbers of the steps that it hung on when it was done, rising.
        self.hung_on = []


def done_behind(steps, step):
    # Only the step's first place tells what it hung on when it was done, so that is kept here.
    steps.append(step)
    n = len(steps) - 1
    step.hung_on = hangs_on(steps, n)
    return n


def feeders(steps, cell, place):
    found = []
    for n in range(place - 1, -1, -1):
        step = steps[n]
        if step.is_there and cell in step.adds:
            found.append(n)
        if step.is_there and cell in step.sets:
            found.append(n)
            break
    return found


def hangs_on(steps, n):
    # A dict, because one step may feed both cells that are read.
    found = {}
    for cell in steps[n].reads:
        for feeder in feeders(steps, cell, n):
            found[feeder] = True
    return sorted(found)


def hangers(steps, n):
    # Step n itself need not be there: then these are the steps that would hang on it.
    found = []
    fed = steps[n].sets + steps[n].adds
    for later in range(n + 1, len(steps)):
        if len(fed) == 0:
            break
        step = steps[later]
        if step.is_there:
            # What a step reads it reads before it sets anything.
            if any([cell in fed for cell in step.reads]):
                found.append(later)
            fed = [cell for cell in fed if cell not in step.sets]
    return found


def with_all_hangers(steps, n):
    # A step hangs on earlier ones only, so one walk upwards comes to every one of them.
    found = {n: True}
    for later in range(n, len(steps)):
        if later in found:
            for hanger in hangers(steps, later):
                found[hanger] = True
    return sorted(found)


def comes_from(steps, cell):
    found = {}
    for feeder in feeders(steps, cell, len(steps)):
        found[feeder] = True
    # A step hangs on earlier ones only, so one walk downwards comes to every one of them.
    for n in range(len(steps) - 1, -1, -1):
        if n in found:
            for earlier in hangs_on(steps, n):
                found[earlier] = True
    return sorted(found)
