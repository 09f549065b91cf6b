"""The sheet, its calls, and the one list in which calls come and answers go."""

from takenback.cells import contents
from takenback.kinds import CELLS, named_rightly
from takenback.steps import Step, comes_from, done_behind, hangers, hangs_on, with_all_hangers

PEOPLE = 16
MOST_STEPS = 256

NOT_YOURS = -1
NO_SUCH_STEP = -2
HANGS_OTHERWISE = -11
OTHERS_HANG_ON_IT = -13
HUNG_ON = -16
SO_ALREADY = -17
WRONG = -22
FULL = -28

BEGIN = 0
DO = 1
TAKE = 2
ALL_OF = 3
GIVE = 4
CELL = 5
HANG = 6
FROM_CELL = 7
THERE = 8

# How many numbers stand behind each call's own number, in the order of the numbers above.
GIVEN = (0, 6, 2, 2, 2, 1, 1, 1, 1)


class Sheet:
    def __init__(self):
        self.steps = []

    def begin(self):
        self.steps = []
        return 0

    def do(self, who, kind, cells, v):
        if who >= PEOPLE or not named_rightly(kind, cells, v):
            return WRONG
        if len(self.steps) >= MOST_STEPS:
            return FULL
        return done_behind(self.steps, Step(who, kind, cells, v))

    def refusal(self, who, n, due_there):
        if n >= len(self.steps):
            return NO_SUCH_STEP
        if self.steps[n].who != who:
            return NOT_YOURS
        if self.steps[n].is_there != due_there:
            return SO_ALREADY
        return 0

    def take(self, who, n):
        refused = self.refusal(who, n, True)
        if refused < 0:
            return refused
        if len(hangers(self.steps, n)) > 0:
            return HUNG_ON
        step = self.steps[n]
        step.is_there = False
        return 0

    def all_of(self, who, n):
        refused = self.refusal(who, n, True)
        if refused < 0:
            return refused
        going = [self.steps[each] for each in with_all_hangers(self.steps, n)]
        if any([step.who != who for step in going]):
            return OTHERS_HANG_ON_IT
        for step in going:
            step.is_there = False
        return len(going)

    def give(self, who, n):
        refused = self.refusal(who, n, False)
        if refused < 0:
            return refused
        step = self.steps[n]
        if hangs_on(self.steps, n) != step.hung_on:
            return HANGS_OTHERWISE
        if len(hangers(self.steps, n)) > 0:
            return HUNG_ON
        step.is_there = True
        return 0

    def cell(self, c):
        if c >= CELLS:
            return [WRONG]
        return [0, contents(self.steps)[c]]

    def hang(self, n):
        if n >= len(self.steps):
            return [NO_SUCH_STEP]
        # Of a step that was taken back hangers tells those that would hang on it.
        if not self.steps[n].is_there:
            return [0]
        return counted(hangers(self.steps, n))

    def from_cell(self, c):
        if c >= CELLS:
            return [WRONG]
        return counted(comes_from(self.steps, c))

    def there(self, n):
        if n >= len(self.steps):
            return NO_SUCH_STEP
        return 1 if self.steps[n].is_there else 0


def counted(numbers):
    return [len(numbers)] + numbers


def answer(sheet, call, given):
    told = []
    if call == BEGIN:
        told.append(sheet.begin())
    elif call == DO:
        told.append(sheet.do(given[0], given[1], given[2:5], given[5]))
    elif call == TAKE:
        told.append(sheet.take(given[0], given[1]))
    elif call == ALL_OF:
        told.append(sheet.all_of(given[0], given[1]))
    elif call == GIVE:
        told.append(sheet.give(given[0], given[1]))
    elif call == CELL:
        told.extend(sheet.cell(given[0]))
    elif call == HANG:
        told.extend(sheet.hang(given[0]))
    elif call == FROM_CELL:
        told.extend(sheet.from_cell(given[0]))
    elif call == THERE:
        told.append(sheet.there(given[0]))
    return told


def answers(calls):
    sheet = Sheet()
    told = []
    at = 0
    while at < len(calls):
        call = calls[at]
        behind = at + 1 + GIVEN[call]
        numbers = answer(sheet, call, calls[at + 1:behind])
        told.append(len(numbers))
        told.extend(numbers)
        at = behind
    return told
