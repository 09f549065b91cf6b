"""Point 4, all."""

import unittest

from tests.calls import (
    TOP, add, all_of, changes_nothing, copy, exchange, give, if_nought, last, put, said, take, total)


def states(before, steps):
    """For each of so many steps of person 0 whether it's there: a give answers -17 if so."""
    return [last(*before, give(0, n)) == -17 for n in range(steps)]


class All(unittest.TestCase):
    def test_a_step_alone(self):
        self.assertEqual(said(put(3, 1, 5), all_of(3, 0), take(3, 0)), [0, 1, -17])

    def test_what_hangs_on_it_goes_too(self):
        before = [put(0, 1, 5), copy(0, 1, 2), put(0, 3, 1), all_of(0, 0)]
        self.assertEqual(said(*before)[-1], 2)
        self.assertEqual(states(before, 3), [False, False, True])

    def test_and_so_on(self):
        before = [put(0, 1, 5), copy(0, 1, 2), total(0, 2, 3, 4), exchange(0, 4, 5), if_nought(0, 5, 6, 1),
                  all_of(0, 0)]
        self.assertEqual(said(*before)[-1], 5)
        self.assertEqual(states(before, 5), [False] * 5)

    def test_no_more_go_than_must(self):
        before = [put(0, 1, 5), copy(0, 1, 2), put(0, 2, 1), copy(0, 2, 3), put(0, 1, 8), copy(0, 1, 4), all_of(0, 0)]
        self.assertEqual(said(*before)[-1], 2)
        self.assertEqual(states(before, 6), [False, False, True, True, True, True])

    def test_the_middle_of_a_chain(self):
        before = [put(0, 1, 5), copy(0, 1, 2), copy(0, 2, 3), all_of(0, 1)]
        self.assertEqual(said(*before)[-1], 2)
        self.assertEqual(states(before, 3), [True, False, False])

    def test_one_that_hangs_by_two_ways_counts_once(self):
        before = [put(0, 1, 5), copy(0, 1, 2), copy(0, 1, 3), total(0, 2, 3, 4), all_of(0, 0)]
        self.assertEqual(said(*before)[-1], 4)

    def test_one_taken_back_does_not_count(self):
        before = [put(0, 1, 5), copy(0, 1, 2), copy(0, 1, 3), take(0, 1), all_of(0, 0)]
        self.assertEqual(said(*before)[-1], 2)

    def test_one_of_somebody_elses_taken_back_is_no_hindrance(self):
        self.assertEqual(last(put(0, 1, 5), copy(1, 1, 2), take(1, 1), all_of(0, 0)), 1)

    def test_other_steps_of_somebody_elses_are_no_hindrance(self):
        self.assertEqual(last(put(1, 1, 4), put(0, 1, 5), copy(0, 1, 2), put(1, 2, 1), copy(1, 2, 3), all_of(0, 1)), 2)

    def test_what_it_hangs_on_stays(self):
        before = [put(0, 1, 5), copy(0, 1, 2), all_of(0, 1)]
        self.assertEqual(said(*before)[-1], 1)
        self.assertEqual(states(before, 2), [True, False])

    def test_256_at_once(self):
        chain = [put(0, 0, 7)] + [copy(0, n % 32, (n + 1) % 32) for n in range(255)]
        self.assertEqual(said(*chain, all_of(0, 0), take(0, 0), take(0, 255))[-3:], [256, -17, -17])

    def test_an_add_goes_with_what_read_it(self):
        before = [put(0, 1, 5), add(0, 1, 2), copy(0, 1, 2), all_of(0, 1)]
        self.assertEqual(said(*before)[-1], 2)
        self.assertEqual(states(before, 3), [True, False, False])

    def test_no_such_step(self):
        self.assertEqual(last(put(0, 1, 5), all_of(0, 1)), -2)
        self.assertEqual(last(put(0, 1, 5), all_of(0, TOP)), -2)

    def test_somebody_elses(self):
        self.assertEqual(last(put(0, 1, 5), all_of(1, 0)), -1)
        self.assertEqual(last(put(0, 1, 5), all_of(16, 0)), -1)

    def test_taken_back_already(self):
        self.assertEqual(last(put(0, 1, 5), take(0, 0), all_of(0, 0)), -17)
        self.assertEqual(last(put(0, 1, 5), all_of(0, 0), all_of(0, 0)), -17)

    def test_somebody_elses_hangs_on_it(self):
        self.assertEqual(last(put(0, 1, 5), copy(1, 1, 2), all_of(0, 0)), -13)

    def test_somebody_elses_hangs_on_it_further_on(self):
        self.assertEqual(last(put(0, 1, 5), copy(0, 1, 2), copy(1, 2, 3), all_of(0, 0)), -13)
        self.assertEqual(last(put(0, 1, 5), copy(1, 1, 2), copy(0, 2, 3), all_of(0, 0)), -13)

    def test_somebody_elses_is_answered_ahead_of_the_rest(self):
        self.assertEqual(last(put(0, 1, 5), take(0, 0), all_of(1, 0)), -1)
        self.assertEqual(last(put(0, 1, 5), copy(1, 1, 2), all_of(1, 0)), -1)
        self.assertEqual(last(put(0, 1, 5), copy(2, 1, 2), all_of(1, 0)), -1)

    def test_a_refusal_changes_nothing(self):
        before = [put(0, 1, 5), copy(0, 1, 2), copy(1, 2, 3), put(2, 3, 1), take(2, 3)]
        for call, refused in ((all_of(0, 5), -2), (all_of(2, 0), -1), (all_of(2, 3), -17), (all_of(0, 0), -13)):
            with self.subTest(refused=refused):
                self.assertEqual(last(*before, call), refused)
                self.assertTrue(changes_nothing(before, call))


if __name__ == "__main__":
    unittest.main()
