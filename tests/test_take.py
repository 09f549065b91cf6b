"""Point 3, take."""

import unittest

from tests.calls import (
    TOP, add, changes_nothing, copy, exchange, give, if_nought, last, put, said, take, total)


class Take(unittest.TestCase):
    def test_a_step_that_nothing_hangs_on(self):
        self.assertEqual(said(put(3, 1, 5), take(3, 0)), [0, 0])

    def test_it_is_no_longer_there(self):
        self.assertEqual(said(put(3, 1, 5), take(3, 0), take(3, 0), give(3, 0)), [0, 0, -17, 0])

    def test_an_older_one_though_others_went_on(self):
        self.assertEqual(last(put(0, 1, 5), put(1, 2, 6), copy(2, 2, 3), take(0, 0)), 0)

    def test_no_such_step(self):
        self.assertEqual(last(put(0, 1, 5), take(0, 1)), -2)
        self.assertEqual(last(put(0, 1, 5), take(0, TOP)), -2)
        self.assertEqual(last(*[put(0, 0, 0)] * 256, take(0, 256)), -2)
        self.assertEqual(last(*[put(0, 0, 0)] * 256, take(0, 255)), 0)

    def test_somebody_elses(self):
        self.assertEqual(last(put(0, 1, 5), take(1, 0)), -1)
        self.assertEqual(last(put(15, 1, 5), take(14, 0)), -1)

    def test_nobody_who_may_do_steps(self):
        self.assertEqual(said(put(0, 1, 5), take(16, 0), take(TOP, 0), take(16, 1)), [0, -1, -1, -2])

    def test_taken_back_already(self):
        self.assertEqual(last(put(0, 1, 5), take(0, 0), take(0, 0)), -17)

    def test_what_a_copy_read(self):
        self.assertEqual(last(put(0, 1, 5), copy(0, 1, 2), take(0, 0)), -16)
        self.assertEqual(last(put(0, 2, 5), copy(0, 1, 2), take(0, 0)), 0)

    def test_what_a_sum_read(self):
        self.assertEqual(last(put(0, 1, 5), total(0, 1, 2, 3), take(0, 0)), -16)
        self.assertEqual(last(put(0, 2, 5), total(0, 1, 2, 3), take(0, 0)), -16)
        self.assertEqual(last(put(0, 3, 5), total(0, 1, 2, 3), take(0, 0)), 0)

    def test_what_an_exchange_read(self):
        self.assertEqual(last(put(0, 1, 5), exchange(0, 1, 2), take(0, 0)), -16)
        self.assertEqual(last(put(0, 2, 5), exchange(0, 1, 2), take(0, 0)), -16)
        self.assertEqual(last(put(0, 3, 5), exchange(0, 1, 2), take(0, 0)), 0)

    def test_what_an_if_nought_read(self):
        self.assertEqual(last(put(0, 1, 5), if_nought(0, 1, 2, 7), take(0, 0)), -16)
        self.assertEqual(last(put(0, 2, 5), if_nought(0, 1, 2, 7), take(0, 0)), -16)
        self.assertEqual(last(put(0, 3, 5), if_nought(0, 1, 2, 7), take(0, 0)), 0)

    def test_put_and_add_read_nothing(self):
        self.assertEqual(last(put(0, 1, 5), put(0, 1, 6), take(0, 0)), 0)
        self.assertEqual(last(put(0, 1, 5), add(0, 1, 6), take(0, 0)), 0)

    def test_what_each_kind_sets(self):
        for step, is_set in ((put(0, 1, 5), (1,)), (copy(0, 1, 2), (2,)), (total(0, 1, 2, 3), (3,)),
                             (exchange(0, 1, 2), (1, 2)), (if_nought(0, 1, 2, 7), (2,))):
            for cell in (1, 2, 3, 4):
                with self.subTest(step=step, cell=cell):
                    self.assertEqual(last(step, copy(0, cell, 9), take(0, 0)), -16 if cell in is_set else 0)

    def test_a_setter_cuts_off_what_was_before(self):
        for setter, cell in ((put(0, 1, 5), 1), (copy(0, 1, 2), 2), (total(0, 1, 2, 3), 3)):
            with self.subTest(setter=setter):
                self.assertEqual(last(add(0, cell, 8), setter, copy(0, cell, 9), take(0, 0)), 0)

    def test_an_add_does_not_cut_off_what_was_before(self):
        self.assertEqual(last(add(0, 1, 8), add(0, 1, 5), copy(0, 1, 9), take(0, 0)), -16)

    def test_a_put_cuts_off_what_was_before(self):
        before = [put(0, 1, 5), add(0, 1, 6), put(0, 1, 7), copy(0, 1, 2)]
        self.assertEqual([last(*before, take(0, n)) for n in range(4)], [0, 0, -16, 0])

    def test_the_steps_of_others_hang_too(self):
        self.assertEqual(last(put(0, 1, 5), copy(1, 1, 2), take(0, 0)), -16)

    def test_what_hung_on_it_was_taken_back(self):
        self.assertEqual(said(put(0, 1, 5), copy(1, 1, 2), take(0, 0), take(1, 1), take(0, 0)), [0, 1, -16, 0, 0])

    def test_a_step_hangs_at_its_place_alone(self):
        # The put behind the copy isn't what the copy read, nor does it cut off what the copy read.
        before = [put(0, 1, 5), copy(0, 1, 2), put(0, 1, 6)]
        self.assertEqual([last(*before, take(0, n)) for n in range(3)], [-16, 0, 0])

    def test_each_link_of_a_chain(self):
        # The second copy hangs on the first, not on the put.
        before = [put(0, 1, 5), copy(0, 1, 2), copy(0, 2, 3)]
        self.assertEqual([last(*before, take(0, n)) for n in range(3)], [-16, -16, 0])

    def test_a_taken_setter_no_longer_cuts_off(self):
        before = [put(0, 1, 5), put(1, 1, 6), take(1, 1), copy(2, 1, 2)]
        self.assertEqual(said(*before, take(0, 0), give(1, 1))[-2:], [-16, -16])

    def test_somebody_elses_is_answered_ahead_of_the_rest(self):
        self.assertEqual(last(put(0, 1, 5), take(0, 0), take(1, 0)), -1)
        self.assertEqual(last(put(0, 1, 5), copy(0, 1, 2), take(1, 0)), -1)

    def test_a_refusal_changes_nothing(self):
        before = [put(0, 1, 5), copy(1, 1, 2), put(2, 3, 1), take(2, 2)]
        for call, refused in ((take(0, 4), -2), (take(2, 0), -1), (take(2, 2), -17), (take(0, 0), -16)):
            with self.subTest(refused=refused):
                self.assertEqual(last(*before, call), refused)
                self.assertTrue(changes_nothing(before, call))


if __name__ == "__main__":
    unittest.main()
