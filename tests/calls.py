"""Calls written as lists of numbers, and answers taken apart again, for the tests."""

from takenback.sheet import answers

TOP = 4294967295

BEGIN = [0]


def do(who, kind, a=0, b=0, c=0, v=0):
    return [1, who, kind, a, b, c, v]


def put(who, a, v):
    return do(who, 0, a, v=v)


def add(who, a, v):
    return do(who, 1, a, v=v)


def copy(who, a, b):
    return do(who, 2, a, b)


def total(who, a, b, c):
    return do(who, 3, a, b, c)


def exchange(who, a, b):
    return do(who, 4, a, b)


def if_nought(who, a, b, v):
    return do(who, 5, a, b, v=v)


def take(who, n):
    return [2, who, n]


def all_of(who, n):
    return [3, who, n]


def give(who, n):
    return [4, who, n]


def line(calls):
    return [number for call in calls for number in call]


def apart(told):
    """The rows of answers, each without the count ahead of it."""
    rows = []
    at = 0
    while at < len(told):
        rows.append(told[at + 1:at + 1 + told[at]])
        at += 1 + told[at]
    return rows


def said(*calls):
    """What each call behind a first begin answers; each of these answers one number."""
    rows = apart(answers(line([BEGIN] + list(calls))))
    if any(len(row) != 1 for row in rows) or rows[0] != [0] or len(rows) != len(calls) + 1:
        raise AssertionError(f"not one number for each call: {rows}")
    return [row[0] for row in rows[1:]]


def last(*calls):
    return said(*calls)[-1]


def probes(steps, people=3):
    """Calls whose answers tell apart any two states with so many steps, of these people."""
    found = []
    for n in range(steps + 1):
        found += [give(who, n) for who in range(people)]
    for n in range(steps, -1, -1):
        found += [take(who, n) for who in range(people)]
    for n in range(steps + 1):
        found += [give(who, n) for who in range(people)]
    return found + [put(0, 0, 0)]


def changes_nothing(before, call):
    """Whether everything goes on after the call as if it had not come."""
    behind = probes(len(before))
    with_call = said(*before, call, *behind)
    without = said(*before, *behind)
    return with_call[:len(before)] + with_call[len(before) + 1:] == without


def mixed(seed, many, people, cells):
    """So many calls, begin the first, drawn in an order that the seed settles; few cells make much hang together."""
    state = [seed * 2 + 1]

    def draw(below):
        state[0] = (state[0] * 6364136223846793005 + 1442695040888963407) % 2 ** 64
        return (state[0] >> 33) % below

    calls = [BEGIN]
    steps = 0
    while len(calls) < many:
        chosen = draw(20)
        who, n = draw(people), draw(steps + 1)
        a, b, c, v = draw(cells), draw(cells), draw(cells), draw(3)
        if chosen < 8:
            steps += 1
            calls.append((put(who, a, v), add(who, a, v), copy(who, a, b), total(who, a, b, c), exchange(who, a, b),
                          if_nought(who, a, b, v))[draw(6)])
        elif chosen < 9:
            calls.append(do(who, draw(7), a, draw(2) * b, draw(2) * c, draw(2) * v))
        else:
            calls.append((take, take, take, all_of, give, give, give, give)[draw(8)](who, n))
    return calls
