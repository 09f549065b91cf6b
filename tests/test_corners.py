"""The corners that the document names, seen through cell, hang and from, and through what may be taken and given."""

import unittest

from tests.calls import (
    TOP, add, all_of, cell, copy, exchange, from_cell, give, hang, if_nought, last, last_row, put, rows, said, take,
    there, total, values)


def many_steps(calls):
    return len([call for call in calls if call[0] == 1])


def hung(*calls):
    """For each step the steps that hang on it after these calls."""
    steps = many_steps(calls)
    found = rows(*calls, *[hang(n) for n in range(steps)])[len(calls):]
    return [steps_told(row) for row in found]


def origins(*calls):
    """For each cell the steps that it comes from after these calls; cells that come from none are left out."""
    found = [steps_told(row) for row in rows(*calls, *[from_cell(c) for c in range(32)])[len(calls):]]
    return {c: steps for c, steps in enumerate(found) if steps}


def steps_told(row):
    if row[0] != len(row) - 1 or row[1:] != sorted(set(row[1:])):
        raise AssertionError(f"not a count and so many numbers, rising: {row}")
    return row[1:]


class Corners(unittest.TestCase):
    def seen(self, calls, in_cells, hangers, comes_from):
        self.assertEqual(values(*calls), in_cells)
        self.assertEqual(hung(*calls), hangers)
        self.assertEqual(origins(*calls), comes_from)

    def test_an_add_between_a_put_and_a_copy(self):
        before = [put(0, 1, 5), add(1, 1, 2), copy(2, 1, 2)]
        self.seen(before, {1: 7, 2: 7}, [[2], [2], []], {1: [0, 1], 2: [0, 1, 2]})
        self.assertEqual(said(*before, take(0, 0), take(1, 1))[-2:], [-16, -16])
        behind = [take(2, 2), take(1, 1), give(2, 2)]
        self.assertEqual(last(*before, *behind), -11)
        self.seen(before + behind, {1: 5}, [[], [], []], {1: [0]})
        behind += [give(1, 1), give(2, 2)]
        self.assertEqual(said(*before, *behind)[-2:], [0, 0])
        self.seen(before + behind, {1: 7, 2: 7}, [[2], [2], []], {1: [0, 1], 2: [0, 1, 2]})

    def test_an_add_behind_the_copy_is_nothing_to_it(self):
        before = [put(0, 1, 5), copy(0, 1, 2), add(0, 1, 2)]
        self.seen(before, {1: 7, 2: 5}, [[1], [], []], {1: [0, 2], 2: [0, 1]})
        self.assertEqual(said(*before, take(0, 2), give(0, 2), all_of(0, 0))[-3:], [0, 0, 2])
        self.seen(before + [all_of(0, 0)], {1: 2}, [[], [], []], {1: [2]})

    def test_a_cell_that_nobody_set_added_to(self):
        before = [add(0, 1, 5), add(1, 1, 2), copy(2, 1, 2)]
        self.seen(before, {1: 7, 2: 7}, [[2], [2], []], {1: [0, 1], 2: [0, 1, 2]})
        self.assertEqual(said(*before, take(0, 0), take(1, 1), all_of(0, 0))[-3:], [-16, -16, -13])
        self.assertEqual(said(*before, take(2, 2), take(0, 0), take(1, 1), give(2, 2))[-4:], [0, 0, 0, -11])
        self.seen(before + [take(2, 2), take(0, 0)], {1: 2}, [[], [], []], {1: [1]})

    def test_a_cell_that_nobody_set_nor_added_to(self):
        self.seen([copy(0, 1, 2)], {}, [[]], {2: [0]})
        self.assertEqual(said(copy(0, 1, 2), take(0, 0), give(0, 0)), [0, 0, 0])

    def test_an_exchange_of_a_cell_with_itself(self):
        before = [put(0, 1, 5), add(0, 1, 1), exchange(0, 1, 1), copy(0, 1, 2)]
        self.seen(before, {1: 6, 2: 6}, [[2], [2], [3], []], {1: [0, 1, 2], 2: [0, 1, 2, 3]})
        self.assertEqual([last(*before, take(0, n)) for n in range(4)], [-16, -16, -16, 0])
        self.assertEqual([last(*before, all_of(0, n)) for n in range(4)], [3, 3, 2, 1])
        self.seen(before + [all_of(0, 2)], {1: 6}, [[], [], [], []], {1: [0, 1]})

    def test_a_sum_of_a_cell_with_itself_into_itself(self):
        before = [put(0, 1, 5), total(0, 1, 1, 1), total(0, 1, 1, 1), copy(0, 1, 2)]
        self.seen(before, {1: 20, 2: 20}, [[1], [2], [3], []], {1: [0, 1, 2], 2: [0, 1, 2, 3]})
        self.assertEqual([last(*before, take(0, n)) for n in range(4)], [-16, -16, -16, 0])
        self.assertEqual([last(*before, all_of(0, n)) for n in range(4)], [4, 3, 2, 1])
        self.seen(before + [all_of(0, 2)], {1: 10}, [[1], [], [], []], {1: [0, 1]})

    def test_a_copy_of_a_cell_into_itself(self):
        before = [put(0, 1, 5), copy(0, 1, 1), copy(0, 1, 2)]
        self.seen(before, {1: 5, 2: 5}, [[1], [2], []], {1: [0, 1], 2: [0, 1, 2]})

    def test_an_if_nought_that_does_nothing(self):
        before = [put(0, 1, 5), put(0, 2, 6), if_nought(0, 1, 2, 7), copy(0, 2, 3)]
        self.seen(before, {1: 5, 2: 6, 3: 6}, [[2], [2], [3], []], {1: [0], 2: [0, 1, 2], 3: [0, 1, 2, 3]})
        self.assertEqual([last(*before, take(0, n)) for n in range(4)], [-16, -16, -16, 0])
        self.assertEqual([last(*before, all_of(0, n)) for n in range(4)], [3, 3, 2, 1])
        self.seen(before + [all_of(0, 0)], {2: 6}, [[], [], [], []], {2: [1]})

    def test_an_if_nought_of_a_cell_with_itself(self):
        before = [add(0, 1, 0), if_nought(0, 1, 1, 7), if_nought(0, 1, 1, 8)]
        self.seen(before, {1: 7}, [[1], [2], []], {1: [0, 1, 2]})

    def test_a_put_over_a_put(self):
        before = [put(0, 1, 5), put(1, 1, 6), copy(2, 1, 2)]
        self.seen(before, {1: 6, 2: 6}, [[], [2], []], {1: [1], 2: [1, 2]})
        self.assertEqual(said(*before, take(0, 0), take(1, 1))[-2:], [0, -16])
        self.seen([put(0, 1, 5), put(0, 1, 6), take(0, 1)], {1: 5}, [[], []], {1: [0]})

    def test_given_back_where_another_has_been_done_over_it(self):
        before = [put(0, 1, 5), take(0, 0), put(1, 1, 6), give(0, 0)]
        self.assertEqual(last(*before), 0)
        self.seen(before, {1: 6}, [[], []], {1: [1]})
        self.seen(before + [take(1, 1)], {1: 5}, [[], []], {1: [0]})

    def test_given_back_where_what_it_read_was_taken_back(self):
        before = [put(0, 1, 5), copy(1, 1, 2), take(1, 1), take(0, 0)]
        self.assertEqual(last(*before, give(1, 1)), -11)
        self.seen(before + [give(1, 1)], {}, [[], []], {})
        self.seen(before + [give(0, 0), give(1, 1)], {1: 5, 2: 5}, [[1], []], {1: [0], 2: [0, 1]})

    def test_given_back_where_what_it_read_was_taken_back_and_another_came(self):
        before = [put(0, 1, 5), copy(1, 1, 2), take(1, 1), take(0, 0), put(0, 1, 5)]
        self.assertEqual(last(*before, give(1, 1)), -11)
        self.seen(before + [give(1, 1)], {1: 5}, [[], [], []], {1: [2]})

    def test_256_steps(self):
        before = [add(n % 16, n % 32, n) for n in range(256)]
        self.assertEqual(said(*before), list(range(256)))
        # Cell c was added to by c, c + 32, c + 64 and so on, eight times.
        self.seen(before, {c: 8 * c + 32 * 28 for c in range(32)}, [[]] * 256,
                  {c: list(range(c, 256, 32)) for c in range(32)})
        self.assertEqual(last(*before, put(0, 1, 5)), -28)
        self.assertEqual(said(*before, put(0, 1, 5), there(255), there(256))[-2:], [1, -2])
        self.assertEqual(last_row(*before, put(0, 1, 5), cell(1)), [0, 904])
        self.assertEqual(last(*before, take(0, 0), put(0, 1, 5)), -28)

    def test_who_of_15_and_16(self):
        before = [put(15, 1, 5), put(16, 1, 6), copy(16, 1, 2), copy(15, 1, 3)]
        self.assertEqual(said(*before), [0, -22, -22, 1])
        self.assertEqual(values(*before), {1: 5, 3: 5})
        self.assertEqual(rows(*before, hang(0), hang(1), hang(2))[4:], [[1, 1], [0], [-2]])
        self.assertEqual(origins(*before), {1: [0], 3: [0, 1]})

    def test_the_top_number_and_1_added(self):
        before = [put(0, 1, TOP), add(1, 1, 1)]
        self.assertEqual(said(*before), [0, 1])
        self.seen(before, {}, [[], []], {1: [0, 1]})
        self.seen(before + [add(0, 1, TOP)], {1: TOP}, [[], [], []], {1: [0, 1, 2]})
        self.seen(before + [if_nought(0, 1, 2, 7)], {2: 7}, [[2], [2], []], {1: [0, 1], 2: [0, 1, 2]})
        self.seen(before + [take(1, 1)], {1: TOP}, [[], []], {1: [0]})

    def test_an_add_of_nought_feeds_all_the_same(self):
        before = [add(0, 1, 0), copy(0, 1, 2)]
        self.assertEqual(last(*before, take(0, 0)), -16)
        self.seen(before, {}, [[1], []], {1: [0], 2: [0, 1]})


if __name__ == "__main__":
    unittest.main()
