"""What holds whatever is done: against a model written from the document's words alone, and law by law."""

import unittest

from takenback.cells import contents, perform
from takenback.sheet import Sheet, answer, answers
from tests.calls import apart, line, mixed, put

# For each kind, as the document tells them: what is named, read, set, added to.
NAMED = ("av", "av", "ab", "abc", "ab", "abv")
READ = ("", "", "a", "ab", "ab", "ab")
SET = ("a", "", "b", "c", "ab", "b")
ADDED = ("", "a", "", "", "", "")


class Model:
    """Every question is answered from the list of steps, from the beginning, by the definitions."""

    def __init__(self):
        self.begin()

    def begin(self):
        self.steps, self.read, self.set, self.added = [], [], [], []
        return 0

    def hung_on(self, n, there):
        found = set()
        for cell in self.read[n]:
            setters = [m for m in there if m < n and cell in self.set[m]]
            found |= {m for m in there if m < n and cell in self.added[m] and m > max(setters, default=-1)}
            found |= set(setters[-1:])
        return found

    def hangers(self, n, there):
        return {m for m in there if n in self.hung_on(m, there)}

    def there(self):
        return [n for n, step in enumerate(self.steps) if step[6]]

    def do(self, who, kind, a, b, c, v):
        if who > 15 or kind > 5:
            return -22
        for name, number in zip("abcv", (a, b, c, v)):
            if number > (0 if name not in NAMED[kind] else 31 if name in "abc" else number):
                return -22
        if len(self.steps) == 256:
            return -28
        self.steps.append([who, kind, a, b, c, v, True, None])
        for cells, names in ((self.read, READ), (self.set, SET), (self.added, ADDED)):
            cells.append([(a, b, c)["abc".index(name)] for name in names[kind]])
        n = len(self.steps) - 1
        self.steps[n][7] = self.hung_on(n, self.there())
        return n

    def refused(self, who, n, already):
        if n >= len(self.steps):
            return -2
        if self.steps[n][0] != who:
            return -1
        return -17 if already == ("there" if self.steps[n][6] else "taken back") else None

    def take(self, who, n):
        refused = self.refused(who, n, "taken back")
        if refused:
            return refused
        if self.hangers(n, self.there()):
            return -16
        self.steps[n][6] = False
        return 0

    def all_of(self, who, n):
        refused = self.refused(who, n, "taken back")
        if refused:
            return refused
        going = set()
        more = {n}
        while more:
            going |= more
            more = set().union(*[self.hangers(m, self.there()) for m in more]) - going
        if any(self.steps[m][0] != who for m in going):
            return -13
        for m in going:
            self.steps[m][6] = False
        return len(going)

    def give(self, who, n):
        refused = self.refused(who, n, "there")
        if refused:
            return refused
        there = sorted(self.there() + [n])
        if self.hung_on(n, there) != self.steps[n][7]:
            return -11
        if self.hangers(n, there):
            return -16
        self.steps[n][6] = True
        return 0

    def answer(self, call):
        return (self.begin, self.do, self.take, self.all_of, self.give)[call[0]](*call[1:])


def there(sheet):
    return [step.is_there for step in sheet.steps]


def state(sheet):
    return there(sheet), contents(sheet.steps)


def sheet_after(calls):
    sheet = Sheet()
    for call in calls:
        answer(sheet, call[0], call[1:])
    return sheet


def said_by(sheet, call):
    return answer(sheet, call[0], call[1:])[0]


def read_now(sheet):
    """What each step reads at its place; of one that was taken back, None."""
    held = contents([])
    found = []
    for step in sheet.steps:
        found.append([held[cell] for cell in step.reads] if step.is_there else None)
        if step.is_there:
            perform(step, held)
    return found


# Of each line: the seed, how many calls, how many people, how many cells.
LINES = [(seed, 60, 3, 3) for seed in range(150)] + [(seed, 90, 2, 5) for seed in range(150, 200)]


class Holds(unittest.TestCase):
    def test_the_answers_are_the_models(self):
        heard = {}
        for given in LINES + [(200, 300, 2, 8), (201, 300, 3, 32), (202, 300, 1, 4)]:
            with self.subTest(given=given):
                calls = mixed(*given)
                model = Model()
                told = [row[0] for row in apart(answers(line(calls)))]
                self.assertEqual(told, [model.answer(call) for call in calls])
                for call, number in zip(calls, told):
                    heard[call[0], min(number, 0)] = True
        due = [(0, 0), (1, 0), (1, -22)]
        due += [(2, number) for number in (0, -2, -1, -17, -16)]
        due += [(3, number) for number in (0, -2, -1, -17, -13)]
        due += [(4, number) for number in (0, -2, -1, -17, -11, -16)]
        self.assertEqual(sorted(heard), sorted(due))

    def test_each_step_that_is_there_reads_what_it_read(self):
        for given in LINES:
            sheet = Sheet()
            read = []
            for call in mixed(*given):
                number = said_by(sheet, call)
                now = read_now(sheet)
                if call[0] == 1 and number >= 0:
                    read.append(now[number])
                for n, numbers in enumerate(now):
                    self.assertIn(numbers, (None, read[n]))

    def test_a_step_taken_back_and_given_back_leaves_all_as_it_was(self):
        tried = 0
        for given in LINES:
            sheet = sheet_after(mixed(*given))
            before = state(sheet)
            for n, step in enumerate(sheet.steps):
                if said_by(sheet, [2, step.who, n]) == 0:
                    tried += 1
                    self.assertEqual(said_by(sheet, [4, step.who, n]), 0)
                elif said_by(sheet, [4, step.who, n]) == 0:
                    tried += 1
                    self.assertEqual(said_by(sheet, [2, step.who, n]), 0)
                self.assertEqual(state(sheet), before)
        self.assertGreater(tried, 100)

    def test_two_that_may_be_taken_back_may_be_so_in_either_order(self):
        tried = 0
        for given in LINES[:100]:
            calls = mixed(*given)
            sheet = sheet_after(calls)
            takes = [[2, step.who, n] for n, step in enumerate(sheet.steps)]
            free = [take for take in takes if said_by(sheet_after(calls), take) == 0]
            for one, two in zip(free, free[1:]):
                tried += 1
                first = sheet_after(calls)
                second = sheet_after(calls)
                self.assertEqual([said_by(first, one), said_by(first, two)], [0, 0])
                self.assertEqual([said_by(second, two), said_by(second, one)], [0, 0])
                self.assertEqual(state(first), state(second))
        self.assertGreater(tried, 40)

    def test_with_all_no_more_go_than_must(self):
        # Each that went hung on one that went, so none of them could have been left.
        tried = 0
        for given in LINES:
            calls = mixed(*given)
            for n, step in enumerate(sheet_after(calls).steps):
                sheet = sheet_after(calls)
                before = there(sheet)
                many = said_by(sheet, [3, step.who, n])
                gone = [m for m, was in enumerate(before) if was and not sheet.steps[m].is_there]
                self.assertEqual(len(gone), max(many, 0))
                for m in gone:
                    tried += m != n
                    self.assertTrue(m == n or any(k in sheet.steps[m].hung_on for k in gone))
        self.assertGreater(tried, 40)

    def test_256_steps_against_the_model(self):
        calls = [[0]] + [put(0, n % 32, n) for n in range(3)]
        calls += [call for call in mixed(5, 1500, 2, 12) if call[0] == 1][:300]
        calls += [call for call in mixed(6, 900, 2, 12) if call[0] > 1][:90]
        model = Model()
        told = [row[0] for row in apart(answers(line(calls)))]
        self.assertEqual(told, [model.answer(call) for call in calls])
        self.assertIn(255, told)
        self.assertIn(-28, told)


if __name__ == "__main__":
    unittest.main()
