"""The six kinds of steps: what each of them names, reads, sets and adds to."""

CELLS = 32

PUT = 0
ADD = 1
COPY = 2
SUM = 3
EXCHANGE = 4
IF_NOUGHT = 5
KINDS = 6

# Each tuple below has one entry for each kind, in the order of the numbers above.
# The cells that a kind names are always the first ones of a, b and c, so a count tells them.
CELLS_NAMED = (1, 1, 2, 3, 2, 2)
NUMBER_NAMED = (True, True, False, False, False, True)

# Here 0 stands for a, 1 for b, 2 for c.
READS = ((), (), (0,), (0, 1), (0, 1), (0, 1))
SETS = ((0,), (), (1,), (2,), (0, 1), (1,))
ADDS = ((), (0,), (), (), (), ())


def named_rightly(kind, cells, v):
    if kind >= KINDS:
        return False
    named = CELLS_NAMED[kind]
    if any([cell >= CELLS for cell in cells[:named]]):
        return False
    if any([cell != 0 for cell in cells[named:]]):
        return False
    return NUMBER_NAMED[kind] or v == 0
