"""Calls written as lists of numbers, and answers taken apart again, for the tests."""

from takenback.sheet import answers

TOP = 4294967295

BEGIN = [0]


def do(who, kind, a=0, b=0, c=0, v=0):
    return [1, who, kind, a, b, c, v]


def put(who, a, v):
    return do(who, 0, a, v=v)


def add(who, a, v):
    return do(who, 1, a, v=v)


def copy(who, a, b):
    return do(who, 2, a, b)


def total(who, a, b, c):
    return do(who, 3, a, b, c)


def exchange(who, a, b):
    return do(who, 4, a, b)


def if_nought(who, a, b, v):
    return do(who, 5, a, b, v=v)


def take(who, n):
    return [2, who, n]


def all_of(who, n):
    return [3, who, n]


def give(who, n):
    return [4, who, n]


def cell(c):
    return [5, c]


def hang(n):
    return [6, n]


def from_cell(c):
    return [7, c]


def there(n):
    return [8, n]


def line(calls):
    return [number for call in calls for number in call]


def apart(told):
    """The rows of answers, each without the count ahead of it."""
    rows = []
    at = 0
    while at < len(told):
        rows.append(told[at + 1:at + 1 + told[at]])
        at += 1 + told[at]
    return rows


def rows(*calls):
    """What each call behind a first begin answers, number by number."""
    found = apart(answers(line([BEGIN] + list(calls))))
    if found[0] != [0] or len(found) != len(calls) + 1:
        raise AssertionError(f"not one row for each call: {found}")
    return found[1:]


def said(*calls):
    """What each call behind a first begin answers; each of these answers one number."""
    found = rows(*calls)
    if any(len(row) != 1 for row in found):
        raise AssertionError(f"not one number for each call: {found}")
    return [row[0] for row in found]


def last(*calls):
    return said(*calls)[-1]


def last_row(*calls):
    return rows(*calls)[-1]


def values(*calls):
    """What is in the cells after these calls, those with 0 left out."""
    found = rows(*calls, *[cell(c) for c in range(32)])[-32:]
    if any(len(row) != 2 or row[0] != 0 for row in found):
        raise AssertionError(f"not 0 and a value for each cell: {found}")
    return {c: row[1] for c, row in enumerate(found) if row[1] != 0}


def views(steps, cells=32):
    """Calls that ask for all that is to be seen of a sheet with so many steps, which name so many cells."""
    found = []
    for n in range(steps + 1):
        found += [there(n), hang(n)]
    for c in range(cells + 1):
        found += [cell(c), from_cell(c)]
    return found


def probes(steps, people=3):
    """Calls whose answers tell apart any two states with so many steps, of these people."""
    found = []
    for n in range(steps + 1):
        found += [give(who, n) for who in range(people)]
    for n in range(steps, -1, -1):
        found += [take(who, n) for who in range(people)]
    for n in range(steps + 1):
        found += [give(who, n) for who in range(people)]
    return found + [put(0, 0, 0)]


def changes_nothing(before, call):
    """Whether everything goes on after the call as if it had not come."""
    behind = views(len(before)) + probes(len(before)) + views(len(before))
    with_call = rows(*before, call, *behind)
    without = rows(*before, *behind)
    return with_call[:len(before)] + with_call[len(before) + 1:] == without


def mixed(seed, many, people, cells):
    """So many calls, begin the first, drawn in an order that the seed settles; few cells make much hang together."""
    state = [seed * 2 + 1]

    def draw(below):
        state[0] = (state[0] * 6364136223846793005 + 1442695040888963407) % 2 ** 64
        return (state[0] >> 33) % below

    calls = [BEGIN]
    owners = []
    while len(calls) < many:
        chosen = draw(24)
        who, n = draw(people), draw(len(owners) + 1)
        a, b, c, v = draw(cells), draw(cells), draw(cells), draw(3)
        if chosen < 8:
            owners.append(who)
            calls.append((put(who, a, v), add(who, a, v), copy(who, a, b), total(who, a, b, c), exchange(who, a, b),
                          if_nought(who, a, b, v))[draw(6)])
        elif chosen < 9:
            calls.append((put(16, a, v), do(who, 6), copy(who, a, 32), do(who, 0, a, b + 1, v=v),
                          do(who, 1, a, c=c + 1, v=v), do(who, 4, a, b, v=v + 1))[draw(6)])
        elif chosen < 20:
            if n < len(owners) and draw(4) > 0:
                who = owners[n]
            calls.append((take, take, take, all_of, give, give, give, give)[draw(8)](who, n))
        else:
            calls.append((cell(a), hang(n), from_cell(b), there(n))[draw(4)])
    return calls
