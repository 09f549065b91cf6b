"""Point 8, from."""

import unittest

from tests.calls import (
    BEGIN, TOP, add, all_of, cell, changes_nothing, copy, exchange, from_cell, give, if_nought, last_row, put, rows,
    take, total)


class From(unittest.TestCase):
    def test_nothing_feeds_the_cell(self):
        self.assertEqual(rows(*[from_cell(c) for c in range(32)]), [[0]] * 32)
        self.assertEqual(last_row(put(0, 1, 5), copy(0, 1, 3), from_cell(2)), [0])

    def test_a_put(self):
        self.assertEqual(last_row(put(0, 2, 4), put(0, 1, 5), from_cell(1)), [1, 1])

    def test_the_last_cell(self):
        self.assertEqual(last_row(from_cell(31)), [0])
        self.assertEqual(last_row(put(0, 31, 5), from_cell(31)), [1, 0])

    def test_a_cell_above_31(self):
        for c in (32, 33, 256, TOP):
            with self.subTest(c=c):
                self.assertEqual(last_row(from_cell(c)), [-22])
                self.assertEqual(last_row(put(0, 31, 5), from_cell(c)), [-22])

    def test_adds_with_no_set(self):
        before = [add(0, 1, 5), add(0, 2, 1), add(1, 1, 6), add(0, 1, 0)]
        self.assertEqual(last_row(*before, from_cell(1)), [3, 0, 2, 3])

    def test_a_set_and_the_adds_behind_it(self):
        before = [add(0, 1, 5), put(0, 1, 1), add(0, 1, 6), add(1, 1, 7)]
        self.assertEqual(last_row(*before, from_cell(1)), [3, 1, 2, 3])

    def test_only_the_last_set(self):
        self.assertEqual(last_row(put(0, 1, 5), put(0, 1, 6), put(0, 1, 7), from_cell(1)), [1, 2])

    def test_whosever_they_are(self):
        self.assertEqual(last_row(put(15, 1, 5), copy(3, 1, 2), add(0, 2, 1), from_cell(2)), [3, 0, 1, 2])

    def test_a_chain_of_several_steps(self):
        before = [put(0, 9, 1), put(0, 1, 5), copy(0, 1, 2), put(0, 8, 1), add(0, 2, 1), copy(0, 2, 3),
                  total(0, 3, 4, 5)]
        told = rows(*before, *[from_cell(c) for c in (1, 2, 3, 4, 5)])[7:]
        self.assertEqual(told, [[1, 1], [3, 1, 2, 4], [4, 1, 2, 4, 5], [0], [5, 1, 2, 4, 5, 6]])

    def test_what_was_read_then_counts_not_what_came_behind(self):
        before = [put(0, 1, 5), copy(0, 1, 2), put(0, 1, 6), add(0, 1, 7)]
        self.assertEqual(rows(*before, from_cell(1), from_cell(2))[4:], [[2, 2, 3], [2, 0, 1]])

    def test_what_each_kind_comes_from(self):
        before = [put(0, 1, 5), put(0, 2, 6), put(0, 3, 7)]
        for step, one, two, three in (
                (put(0, 1, 5), [3], [1], [2]), (add(0, 1, 5), [0, 3], [1], [2]), (copy(0, 1, 2), [0], [0, 3], [2]),
                (total(0, 1, 2, 3), [0], [1], [0, 1, 3]), (exchange(0, 1, 2), [0, 1, 3], [0, 1, 3], [2]),
                (if_nought(0, 1, 2, 7), [0], [0, 1, 3], [2])):
            with self.subTest(step=step):
                told = rows(*before, step, from_cell(1), from_cell(2), from_cell(3))[4:]
                self.assertEqual(told, [[len(one)] + one, [len(two)] + two, [len(three)] + three])

    def test_an_exchange_in_the_chain(self):
        before = [put(0, 1, 5), put(0, 2, 6), exchange(0, 1, 2), copy(0, 1, 3)]
        self.assertEqual(rows(*before, from_cell(3), from_cell(2))[4:], [[4, 0, 1, 2, 3], [3, 0, 1, 2]])

    def test_an_if_nought_in_the_chain(self):
        before = [put(0, 1, 0), put(0, 2, 6), if_nought(0, 1, 2, 7), copy(0, 2, 3)]
        self.assertEqual(rows(*before, from_cell(3), cell(3))[4:], [[4, 0, 1, 2, 3], [0, 7]])

    def test_an_if_nought_in_the_chain_that_does_nothing(self):
        before = [put(0, 1, 1), put(0, 2, 6), if_nought(0, 1, 2, 7), copy(0, 2, 3)]
        self.assertEqual(rows(*before, from_cell(3), cell(3))[4:], [[4, 0, 1, 2, 3], [0, 6]])

    def test_each_step_is_told_once(self):
        before = [put(0, 1, 5), copy(0, 1, 2), copy(0, 1, 3), total(0, 2, 3, 4), total(0, 4, 1, 5)]
        self.assertEqual(last_row(*before, from_cell(5)), [5, 0, 1, 2, 3, 4])
        self.assertEqual(last_row(put(0, 1, 5), total(0, 1, 1, 1), total(0, 1, 1, 1), from_cell(1)), [3, 0, 1, 2])

    def test_rising_whatever_the_order_of_the_cells(self):
        before = [put(0, 2, 5), put(0, 1, 6), total(0, 1, 2, 3), add(0, 3, 1)]
        self.assertEqual(last_row(*before, from_cell(3)), [4, 0, 1, 2, 3])

    def test_a_step_that_was_taken_back_is_not_told(self):
        before = [put(0, 1, 5), add(0, 1, 6), put(0, 1, 7), add(0, 1, 8)]
        self.assertEqual(last_row(*before, take(0, 3), from_cell(1)), [1, 2])
        self.assertEqual(last_row(*before, take(0, 2), from_cell(1)), [3, 0, 1, 3])
        self.assertEqual(last_row(*before, take(0, 2), take(0, 0), from_cell(1)), [2, 1, 3])

    def test_a_step_that_was_taken_back_before_it_was_read_is_not_told(self):
        before = [put(0, 1, 5), put(0, 1, 6), take(0, 1), copy(0, 1, 2)]
        self.assertEqual(last_row(*before, from_cell(2)), [2, 0, 2])

    def test_behind_an_all(self):
        before = [put(0, 1, 5), copy(0, 1, 2), add(0, 2, 1), all_of(0, 0)]
        self.assertEqual(rows(*before, from_cell(1), from_cell(2))[4:], [[0], [1, 2]])

    def test_behind_a_give(self):
        before = [put(0, 1, 5), put(0, 1, 6), take(0, 0), take(0, 1), give(0, 0)]
        self.assertEqual(last_row(*before, from_cell(1)), [1, 0])
        self.assertEqual(last_row(*before, give(0, 1), from_cell(1)), [1, 1])

    def test_behind_another_begin(self):
        self.assertEqual(last_row(put(0, 1, 5), BEGIN, from_cell(1)), [0])
        self.assertEqual(last_row(put(0, 1, 5), BEGIN, put(0, 2, 5), copy(0, 1, 2), from_cell(2)), [1, 1])

    def test_what_is_told_is_enough(self):
        before = [put(0, 1, 5), put(0, 2, 6), put(0, 9, 3), total(0, 1, 2, 3), add(0, 9, 1), if_nought(0, 3, 1, 8),
                  exchange(0, 1, 4), add(0, 4, 2), put(0, 1, 1)]
        for c in range(10):
            told, value = rows(*before, from_cell(c), cell(c))[9:]
            self.assertEqual(last_row(*[before[n] for n in told[1:]], cell(c)), value)

    def test_256_steps_each_on_the_one_before(self):
        before = [put(0, 0, 7)] + [copy(0, n % 32, (n + 1) % 32) for n in range(255)]
        self.assertEqual(last_row(*before, from_cell(31)), [256] + list(range(256)))
        self.assertEqual(last_row(*before, from_cell(0)), [225] + list(range(225)))
        doubled = [put(0, 0, 7)] + [total(0, 0, 0, 0)] * 255
        self.assertEqual(last_row(*doubled, from_cell(0)), [256] + list(range(256)))

    def test_256_adds(self):
        self.assertEqual(last_row(*[add(0, 1, 1)] * 256, from_cell(1)), [256] + list(range(256)))

    def test_it_changes_nothing(self):
        before = [put(0, 1, 5), copy(1, 1, 2), put(0, 1, 6), take(0, 2)]
        for c in (0, 1, 2, 31, 32, TOP):
            self.assertTrue(changes_nothing(before, from_cell(c)))


if __name__ == "__main__":
    unittest.main()
