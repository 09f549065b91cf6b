"""Point 7, hang."""

import unittest

from tests.calls import (
    BEGIN, TOP, add, all_of, changes_nothing, copy, exchange, give, hang, if_nought, last_row, put, rows, take, total)


class Hang(unittest.TestCase):
    def test_none(self):
        self.assertEqual(last_row(put(0, 1, 5), hang(0)), [0])

    def test_none_of_the_last_step(self):
        self.assertEqual(last_row(put(0, 1, 5), copy(0, 1, 2), hang(1)), [0])

    def test_one(self):
        self.assertEqual(last_row(put(0, 1, 5), copy(0, 1, 2), hang(0)), [1, 1])

    def test_several_rising(self):
        before = [put(0, 1, 5), copy(0, 1, 4), put(0, 2, 1), total(0, 1, 2, 3), copy(0, 1, 2), exchange(0, 1, 2)]
        self.assertEqual(last_row(*before, hang(0)), [4, 1, 3, 4, 5])

    def test_whosever_they_are(self):
        self.assertEqual(last_row(put(0, 1, 5), copy(15, 1, 2), copy(3, 1, 2), hang(0)), [2, 1, 2])

    def test_no_such_step(self):
        self.assertEqual(last_row(hang(0)), [-2])
        self.assertEqual(last_row(hang(TOP)), [-2])
        for n in (2, 3, 255, 256, TOP):
            with self.subTest(n=n):
                self.assertEqual(last_row(put(0, 1, 5), copy(0, 1, 2), hang(n)), [-2])

    def test_a_step_that_was_refused_is_no_step(self):
        self.assertEqual(last_row(put(16, 1, 5), hang(0)), [-2])

    def test_only_those_that_hang_on_it_at_once(self):
        before = [put(0, 1, 5), copy(0, 1, 2), copy(0, 2, 3), copy(0, 3, 4)]
        self.assertEqual(rows(*before, *[hang(n) for n in range(4)])[4:], [[1, 1], [1, 2], [1, 3], [0]])

    def test_two_cells_that_one_step_feeds_are_told_once(self):
        before = [put(0, 1, 5), exchange(0, 1, 2)]
        for reader in (total(0, 1, 2, 3), total(0, 2, 1, 1), exchange(0, 2, 1), if_nought(0, 1, 2, 7)):
            with self.subTest(reader=reader):
                self.assertEqual(last_row(*before, reader, hang(1)), [1, 2])

    def test_one_cell_read_twice_is_told_once(self):
        for reader in (total(0, 1, 1, 2), total(0, 1, 1, 1), exchange(0, 1, 1), if_nought(0, 1, 1, 7)):
            with self.subTest(reader=reader):
                self.assertEqual(last_row(put(0, 1, 5), reader, hang(0)), [1, 1])

    def test_what_each_kind_reads(self):
        before = [put(0, 1, 5), put(0, 2, 6), put(0, 3, 7)]
        for step, read in ((put(0, 1, 5), []), (add(0, 1, 5), []), (copy(0, 1, 2), [1]), (total(0, 1, 2, 3), [1, 2]),
                           (exchange(0, 1, 2), [1, 2]), (if_nought(0, 1, 2, 7), [1, 2])):
            with self.subTest(step=step):
                told = rows(*before, step, hang(0), hang(1), hang(2))[4:]
                self.assertEqual(told, [[1, 3] if c in read else [0] for c in (1, 2, 3)])

    def test_what_each_kind_sets_or_adds_to(self):
        for step, fed in ((put(0, 1, 5), [1]), (add(0, 1, 5), [1]), (copy(0, 1, 2), [2]), (total(0, 1, 2, 3), [3]),
                          (exchange(0, 1, 2), [1, 2]), (if_nought(0, 1, 2, 7), [2])):
            with self.subTest(step=step):
                told = last_row(step, copy(0, 1, 10), copy(0, 2, 11), copy(0, 3, 12), copy(0, 0, 13), hang(0))
                self.assertEqual(told, [len(fed)] + fed)

    def test_a_setter_cuts_off_what_was_before_it(self):
        for setter in (put(0, 1, 9), copy(0, 5, 1), total(0, 5, 6, 1)):
            with self.subTest(setter=setter):
                before = [put(0, 1, 5), add(0, 1, 1), setter, copy(0, 1, 2)]
                self.assertEqual(rows(*before, hang(0), hang(1), hang(2))[4:], [[0], [0], [1, 3]])

    def test_a_setter_that_reads_the_cell_hangs_on_it_and_cuts_it_off(self):
        for setter in (copy(0, 1, 1), total(0, 1, 5, 1), exchange(0, 1, 5), exchange(0, 5, 1), if_nought(0, 5, 1, 9)):
            with self.subTest(setter=setter):
                before = [put(0, 1, 5), setter, copy(0, 1, 2)]
                self.assertEqual(rows(*before, hang(0), hang(1))[3:], [[1, 1], [1, 2]])

    def test_an_add_between_a_set_and_a_read(self):
        before = [put(0, 1, 5), add(0, 1, 2), copy(0, 1, 2)]
        self.assertEqual(rows(*before, hang(0), hang(1), hang(2))[3:], [[1, 2], [1, 2], [0]])

    def test_an_add_hangs_on_nothing(self):
        self.assertEqual(rows(put(0, 1, 5), add(0, 1, 2), hang(0), hang(1))[2:], [[0], [0]])

    def test_an_add_behind_the_read(self):
        before = [put(0, 1, 5), copy(0, 1, 2), add(0, 1, 2)]
        self.assertEqual(rows(*before, hang(0), hang(1), hang(2))[3:], [[1, 1], [0], [0]])

    def test_adds_to_a_cell_that_nobody_set(self):
        before = [add(0, 1, 5), add(0, 1, 2), copy(0, 1, 2), add(0, 1, 3), copy(0, 1, 3)]
        self.assertEqual(rows(*before, hang(0), hang(1), hang(3))[5:], [[2, 2, 4], [2, 2, 4], [1, 4]])

    def test_of_a_step_that_was_taken_back_none(self):
        self.assertEqual(last_row(put(0, 1, 5), take(0, 0), hang(0)), [0])
        self.assertEqual(last_row(put(0, 1, 5), copy(0, 1, 2), all_of(0, 0), hang(0)), [0])

    def test_of_a_step_that_was_taken_back_none_though_one_would_hang_on_it(self):
        self.assertEqual(rows(put(0, 1, 5), take(0, 0), copy(0, 1, 2), give(0, 0), hang(0))[3:], [[-16], [0]])

    def test_a_step_that_was_taken_back_is_not_told(self):
        before = [put(0, 1, 5), copy(0, 1, 2), copy(0, 1, 3), copy(0, 1, 4)]
        self.assertEqual(last_row(*before, take(0, 2), hang(0)), [2, 1, 3])
        self.assertEqual(last_row(*before, take(0, 2), give(0, 2), hang(0)), [3, 1, 2, 3])

    def test_a_setter_that_was_taken_back_cuts_nothing_off(self):
        before = [put(0, 1, 5), put(0, 1, 6), take(0, 1), copy(0, 1, 2)]
        self.assertEqual(rows(*before, hang(0), hang(1))[4:], [[1, 2], [0]])

    def test_of_a_step_given_back(self):
        before = [put(0, 1, 5), copy(0, 1, 2), all_of(0, 0), give(0, 0)]
        self.assertEqual(last_row(*before, hang(0)), [0])
        self.assertEqual(last_row(*before, give(0, 1), hang(0)), [1, 1])

    def test_behind_another_begin(self):
        self.assertEqual(last_row(put(0, 1, 5), copy(0, 1, 2), BEGIN, hang(0)), [-2])
        self.assertEqual(last_row(put(0, 1, 5), copy(0, 1, 2), BEGIN, put(0, 1, 5), hang(0)), [0])

    def test_255_on_one(self):
        before = [put(0, 1, 5)] + [copy(0, 1, 2)] * 255
        self.assertEqual(last_row(*before, hang(0)), [255] + list(range(1, 256)))

    def test_256_steps_each_on_the_one_before(self):
        before = [put(0, 0, 7)] + [copy(0, n % 32, (n + 1) % 32) for n in range(255)]
        for n in range(255):
            self.assertEqual(last_row(*before, hang(n)), [1, n + 1])
        self.assertEqual(rows(*before, hang(255), hang(256))[256:], [[0], [-2]])

    def test_take_is_refused_where_something_is_told(self):
        before = [put(0, 1, 5), add(0, 1, 2), copy(0, 1, 2), put(0, 1, 1), exchange(0, 1, 2)]
        for n in range(5):
            told, taken = rows(*before, hang(n), take(0, n))[5:]
            self.assertEqual(taken, [0 if told == [0] else -16])

    def test_it_changes_nothing(self):
        before = [put(0, 1, 5), copy(1, 1, 2), put(0, 1, 6), take(0, 2)]
        for n in (0, 1, 2, 3, TOP):
            self.assertTrue(changes_nothing(before, hang(n)))


if __name__ == "__main__":
    unittest.main()
