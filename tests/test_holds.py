"""What holds whatever is done: against a model written from the document's words alone, and law by law."""

import unittest

from takenback.sheet import Sheet, answer, answers
from tests.calls import BEGIN, all_of, apart, cell, from_cell, give, hang, last_row, line, mixed, put, take, there, views

# For each kind, as the document tells them: what is named, read, set, added to.
NAMED = ("av", "av", "ab", "abc", "ab", "abv")
READ = ("", "", "a", "ab", "ab", "ab")
SET = ("a", "", "b", "c", "ab", "b")
ADDED = ("", "a", "", "", "", "")


def made_by(steps):
    """What such steps make of the cells, and what each of them reads, in the order of READ."""
    held = {}
    read = []
    for who, kind, a, b, c, v in steps:
        cells = {"a": a, "b": b, "c": c}
        read.append([held.get(cells[name], 0) for name in READ[kind]])
        if kind == 0:
            held[a] = v
        if kind == 1:
            held[a] = held.get(a, 0) + v
        if kind == 2:
            held[b] = read[-1][0]
        if kind == 3:
            held[c] = sum(read[-1])
        if kind == 4:
            held[a], held[b] = read[-1][1], read[-1][0]
        if kind == 5 and read[-1][0] == 0:
            held[b] = v
        held = {cell: number % 2 ** 32 for cell, number in held.items()}
    return held, read


class Model:
    """Every question is answered from the list of steps, from the beginning, by the definitions."""

    def __init__(self):
        self.begin()

    def begin(self):
        self.steps, self.read, self.set, self.added = [], [], [], []
        return 0

    def feeders(self, cell, n, there):
        setters = [m for m in there if m < n and cell in self.set[m]]
        adders = {m for m in there if m < n and cell in self.added[m] and m > max(setters, default=-1)}
        return adders | set(setters[-1:])

    def hung_on(self, n, there):
        return set().union(*[self.feeders(cell, n, there) for cell in self.read[n]])

    def hangers(self, n, there):
        return {m for m in there if n in self.hung_on(m, there)}

    def all_there(self):
        return [n for n, step in enumerate(self.steps) if step[6]]

    def do(self, who, kind, a, b, c, v):
        if who > 15 or kind > 5:
            return -22
        for name, number in zip("abcv", (a, b, c, v)):
            if number > (0 if name not in NAMED[kind] else 31 if name in "abc" else number):
                return -22
        if len(self.steps) == 256:
            return -28
        self.steps.append([who, kind, a, b, c, v, True, None])
        for cells, names in ((self.read, READ), (self.set, SET), (self.added, ADDED)):
            cells.append([(a, b, c)["abc".index(name)] for name in names[kind]])
        n = len(self.steps) - 1
        self.steps[n][7] = self.hung_on(n, self.all_there())
        return n

    def refused(self, who, n, already):
        if n >= len(self.steps):
            return -2
        if self.steps[n][0] != who:
            return -1
        return -17 if already == ("there" if self.steps[n][6] else "taken back") else None

    def take(self, who, n):
        refused = self.refused(who, n, "taken back")
        if refused:
            return refused
        if self.hangers(n, self.all_there()):
            return -16
        self.steps[n][6] = False
        return 0

    def all_of(self, who, n):
        refused = self.refused(who, n, "taken back")
        if refused:
            return refused
        going = set()
        more = {n}
        while more:
            going |= more
            more = set().union(*[self.hangers(m, self.all_there()) for m in more]) - going
        if any(self.steps[m][0] != who for m in going):
            return -13
        for m in going:
            self.steps[m][6] = False
        return len(going)

    def give(self, who, n):
        refused = self.refused(who, n, "there")
        if refused:
            return refused
        there = sorted(self.all_there() + [n])
        if self.hung_on(n, there) != self.steps[n][7]:
            return -11
        if self.hangers(n, there):
            return -16
        self.steps[n][6] = True
        return 0

    def cell(self, c):
        there = [self.steps[n][:6] for n in self.all_there()]
        return [-22] if c > 31 else [0, made_by(there)[0].get(c, 0)]

    def hang(self, n):
        if n >= len(self.steps):
            return [-2]
        hangers = sorted(self.hangers(n, self.all_there()))
        return [len(hangers)] + hangers

    def from_cell(self, c):
        if c > 31:
            return [-22]
        found = set()
        more = self.feeders(c, len(self.steps), self.all_there())
        while more:
            found |= more
            more = set().union(*[self.hung_on(m, self.all_there()) for m in more]) - found
        return [len(found)] + sorted(found)

    def there(self, n):
        return -2 if n >= len(self.steps) else int(self.steps[n][6])

    def answer(self, call):
        told = (self.begin, self.do, self.take, self.all_of, self.give,
                self.cell, self.hang, self.from_cell, self.there)[call[0]](*call[1:])
        return told if isinstance(told, list) else [told]


def sheet_after(calls):
    sheet = Sheet()
    for call in calls:
        answer(sheet, call[0], call[1:])
    return sheet


def row_of(sheet, call):
    return answer(sheet, call[0], call[1:])


def said_by(sheet, call):
    return row_of(sheet, call)[0]


def dos(calls):
    """The steps that were done, in order, as their calls."""
    return [call for call, row in zip(calls, apart(answers(line(calls)))) if call[0] == 1 and row[0] >= 0]


def state(sheet, steps, cells):
    return [row_of(sheet, call) for call in views(steps, cells)]


def now_there(sheet, steps):
    return [n for n in range(steps) if said_by(sheet, there(n)) == 1]


def hung_on_now(sheet, steps):
    """For each step those that it hangs on, as hang tells it."""
    found = [[] for n in range(steps)]
    for n in range(steps):
        for hanger in row_of(sheet, hang(n))[1:]:
            found[hanger].append(n)
    return found


# Of each line: the seed, how many calls, how many people, how many cells.
LINES = [(seed, 60, 3, 3) for seed in range(150)] + [(seed, 90, 2, 5) for seed in range(150, 200)]


class Holds(unittest.TestCase):
    def test_the_answers_are_the_models(self):
        heard = {}
        for given in LINES + [(200, 300, 2, 8), (201, 300, 3, 32), (202, 300, 1, 4)]:
            with self.subTest(given=given):
                calls = mixed(*given)
                model = Model()
                told = apart(answers(line(calls)))
                self.assertEqual(told, [model.answer(call) for call in calls])
                for call, row in zip(calls, told):
                    heard[call[0], min(row[0], 0)] = True
        due = [(0, 0), (1, 0), (1, -22), (5, 0), (6, 0), (6, -2), (7, 0), (8, 0), (8, -2)]
        due += [(2, number) for number in (0, -2, -1, -17, -16)]
        due += [(3, number) for number in (0, -2, -1, -17, -13)]
        due += [(4, number) for number in (0, -2, -1, -17, -11, -16)]
        self.assertEqual(sorted(heard), sorted(due))

    def test_all_that_is_to_be_seen_is_the_models(self):
        for given in LINES:
            with self.subTest(given=given):
                calls = mixed(*given)
                calls += views(len(dos(calls)))
                model = Model()
                self.assertEqual(apart(answers(line(calls))), [model.answer(call) for call in calls])

    def test_each_step_that_is_there_hangs_on_just_what_it_hung_on_and_reads_what_it_read(self):
        tried = 0
        for given in LINES[:120]:
            sheet = Sheet()
            steps, hung_on, read = [], [], []
            for call in mixed(*given):
                number = said_by(sheet, call)
                if call[0] == 1 and number >= 0:
                    steps.append(call[1:])
                there_now = now_there(sheet, len(steps))
                hung_on_at_present = hung_on_now(sheet, len(steps))
                read_now = made_by([steps[n] for n in there_now])[1]
                if len(steps) > len(read):
                    hung_on.append(hung_on_at_present[-1])
                    read.append(read_now[-1])
                self.assertEqual(read_now, [read[n] for n in there_now])
                self.assertEqual(hung_on_at_present, [hung_on[n] if n in there_now else [] for n in range(len(steps))])
                tried += call[0] in (2, 3, 4) and number >= 0 and any(hung_on[n] for n in there_now)
        self.assertGreater(tried, 300)

    def test_what_from_tells_is_enough(self):
        tried = 0
        for given in LINES:
            calls = mixed(*given)
            steps = dos(calls)
            for c in range(given[3]):
                told, value = apart(answers(line(calls + [from_cell(c), cell(c)])))[-2:]
                self.assertEqual(last_row(*[steps[n] for n in told[1:]], cell(c)), value)
                tried += told[0] > 2 and value[1] > 0
        self.assertGreater(tried, 40)

    def test_a_step_taken_back_and_given_back_leaves_all_as_it_was(self):
        tried = 0
        for given in LINES:
            calls = mixed(*given)
            sheet = sheet_after(calls)
            steps = dos(calls)
            before = state(sheet, len(steps), given[3])
            for n, step in enumerate(steps):
                if said_by(sheet, take(step[1], n)) == 0:
                    self.assertEqual(said_by(sheet, give(step[1], n)), 0)
                elif said_by(sheet, give(step[1], n)) == 0:
                    self.assertEqual(said_by(sheet, take(step[1], n)), 0)
                else:
                    continue
                tried += 1
                self.assertEqual(state(sheet, len(steps), given[3]), before)
        self.assertGreater(tried, 100)

    def test_two_that_may_be_taken_back_may_be_so_in_either_order(self):
        tried = 0
        for given in LINES[:100]:
            calls = mixed(*given)
            steps = dos(calls)
            takes = [take(step[1], n) for n, step in enumerate(steps)]
            free = [call for call in takes if said_by(sheet_after(calls), call) == 0]
            for one, two in zip(free, free[1:]):
                tried += 1
                first = sheet_after(calls)
                second = sheet_after(calls)
                self.assertEqual([said_by(first, one), said_by(first, two)], [0, 0])
                self.assertEqual([said_by(second, two), said_by(second, one)], [0, 0])
                self.assertEqual(state(first, len(steps), given[3]), state(second, len(steps), given[3]))
        self.assertGreater(tried, 40)

    def test_with_all_no_more_go_than_must(self):
        # Each that went hung on one that went, so none of them could have been left.
        tried = 0
        for given in LINES:
            calls = mixed(*given)
            steps = dos(calls)
            for n, step in enumerate(steps):
                sheet = sheet_after(calls)
                before = now_there(sheet, len(steps))
                hung_on = hung_on_now(sheet, len(steps))
                many = said_by(sheet, all_of(step[1], n))
                left = now_there(sheet, len(steps))
                gone = [m for m in before if m not in left]
                self.assertEqual(len(gone), max(many, 0))
                for m in gone:
                    tried += m != n
                    self.assertTrue(m == n or any(k in hung_on[m] for k in gone))
        self.assertGreater(tried, 40)

    def test_asking_changes_nothing(self):
        for given in LINES:
            calls = mixed(*given)
            told = apart(answers(line(calls)))
            left = [row for call, row in zip(calls, told) if call[0] < 5]
            self.assertEqual(apart(answers(line([call for call in calls if call[0] < 5]))), left)
            self.assertLess(len(left), len(calls))

    def test_asking_for_all_between_any_two_calls_changes_nothing(self):
        asks = views(12, 3)
        for given in LINES[:40]:
            calls = mixed(*given)
            told = apart(answers(line([other for call in calls for other in [call] + asks])))
            self.assertEqual(apart(answers(line(calls))), told[::1 + len(asks)])

    def test_behind_another_begin_all_is_as_at_first(self):
        for first, second in zip(LINES, LINES[1:]):
            calls = [mixed(*first), mixed(*second) + views(10)]
            self.assertEqual(calls[1][0], BEGIN)
            told = [answers(line(one)) for one in calls]
            self.assertEqual(answers(line(calls[0] + calls[1])), told[0] + told[1])

    def test_256_steps_against_the_model(self):
        calls = [BEGIN] + [put(0, n % 32, n) for n in range(3)]
        calls += [call for call in mixed(5, 1500, 2, 12) if call[0] == 1][:300]
        calls += [call for call in mixed(6, 900, 2, 12) if call[0] > 1][:90]
        model = Model()
        told = apart(answers(line(calls)))
        self.assertEqual(told, [model.answer(call) for call in calls])
        self.assertIn([255], told)
        self.assertIn([-28], told)


if __name__ == "__main__":
    unittest.main()
