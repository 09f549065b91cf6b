"""Point 5, give."""

import unittest

from tests.calls import (
    TOP, add, all_of, changes_nothing, copy, exchange, give, if_nought, last, put, said, take, total)


class Give(unittest.TestCase):
    def test_a_step_given_back_is_there(self):
        self.assertEqual(said(put(3, 1, 5), take(3, 0), give(3, 0), give(3, 0), take(3, 0)), [0, 0, 0, -17, 0])

    def test_it_is_at_its_place_again(self):
        # Were it put behind the other one, the copy would hang on it, not on the other.
        before = [put(0, 1, 4), put(0, 1, 5), take(0, 0), give(0, 0), copy(0, 1, 2)]
        self.assertEqual(said(*before, take(0, 0), take(0, 1))[-2:], [0, -16])

    def test_it_hangs_again_on_what_it_hung_on(self):
        self.assertEqual(last(put(0, 1, 5), copy(0, 1, 2), take(0, 1), give(0, 1), take(0, 0)), -16)

    def test_what_all_took_back_is_given_back_in_order(self):
        before = [put(0, 1, 5), copy(0, 1, 2), copy(0, 2, 3), all_of(0, 0)]
        self.assertEqual(said(*before, give(0, 2), give(0, 1), give(0, 0), give(0, 2), give(0, 1), give(0, 2),
                              take(0, 0), take(0, 1))[3:], [3, -11, -11, 0, -11, 0, 0, -16, -16])

    def test_no_such_step(self):
        self.assertEqual(last(give(0, 0)), -2)
        self.assertEqual(last(put(0, 1, 5), take(0, 0), give(0, 1)), -2)
        self.assertEqual(last(put(0, 1, 5), take(0, 0), give(0, TOP)), -2)

    def test_somebody_elses(self):
        self.assertEqual(last(put(0, 1, 5), take(0, 0), give(1, 0)), -1)
        self.assertEqual(last(put(0, 1, 5), take(0, 0), give(16, 0)), -1)

    def test_there_already(self):
        self.assertEqual(last(put(0, 1, 5), give(0, 0)), -17)
        self.assertEqual(last(put(0, 1, 5), copy(0, 1, 2), give(0, 0)), -17)

    def test_what_it_read_was_taken_back(self):
        for reader in (copy(0, 1, 2), total(0, 1, 2, 3), total(0, 2, 1, 3), exchange(0, 1, 2), exchange(0, 2, 1),
                       if_nought(0, 1, 2, 7), if_nought(0, 2, 1, 7)):
            with self.subTest(reader=reader):
                before = [put(0, 1, 5), reader, take(0, 1)]
                self.assertEqual(said(*before, take(0, 0), give(0, 1), give(0, 0), give(0, 1))[-3:], [-11, 0, 0])

    def test_something_came_between_it_and_what_it_read(self):
        # The copy was done while nothing fed what it read.
        before = [put(0, 1, 5), take(0, 0), copy(0, 1, 2), take(0, 1)]
        self.assertEqual(said(*before, give(0, 0), give(0, 1))[-2:], [0, -11])

    def test_an_add_came_between(self):
        before = [put(0, 1, 5), add(0, 1, 2), take(0, 1), copy(0, 1, 2), take(0, 2)]
        self.assertEqual(said(*before, give(0, 1), give(0, 2), take(0, 1), give(0, 2))[-4:], [0, -11, 0, 0])

    def test_a_setter_came_between(self):
        before = [put(0, 1, 5), put(0, 1, 6), take(0, 1), copy(0, 1, 2), take(0, 2)]
        self.assertEqual(said(*before, give(0, 1), give(0, 2), take(0, 1), give(0, 2))[-4:], [0, -11, 0, 0])

    def test_what_comes_between_elsewhere_is_no_hindrance(self):
        before = [put(0, 1, 5), put(0, 3, 6), take(0, 1), copy(0, 1, 2), take(0, 2)]
        self.assertEqual(said(*before, give(0, 1), give(0, 2))[-2:], [0, 0])

    def test_the_same_value_from_another_step_is_not_the_same(self):
        before = [put(0, 1, 5), put(0, 1, 5), copy(0, 1, 2), take(0, 2), take(0, 1)]
        self.assertEqual(last(*before, give(0, 2)), -11)

    def test_a_step_would_hang_on_it(self):
        self.assertEqual(last(put(0, 1, 5), take(0, 0), copy(0, 1, 2), give(0, 0)), -16)
        self.assertEqual(last(put(0, 1, 5), take(0, 0), copy(1, 1, 2), give(0, 0)), -16)
        self.assertEqual(last(add(0, 1, 5), take(0, 0), copy(0, 1, 2), give(0, 0)), -16)
        self.assertEqual(last(copy(0, 1, 2), take(0, 0), if_nought(0, 3, 2, 1), give(0, 0)), -16)

    def test_a_step_taken_back_does_not_hang_on_it(self):
        self.assertEqual(last(put(0, 1, 5), take(0, 0), copy(0, 1, 2), take(0, 1), give(0, 0)), 0)

    def test_a_step_that_reads_behind_another_setter_does_not_hang_on_it(self):
        self.assertEqual(last(put(0, 1, 5), take(0, 0), put(0, 1, 6), copy(0, 1, 2), give(0, 0)), 0)
        self.assertEqual(last(add(0, 1, 5), take(0, 0), put(0, 1, 6), copy(0, 1, 2), give(0, 0)), 0)

    def test_an_add_behind_it_does_not_cut_it_off(self):
        self.assertEqual(last(put(0, 1, 5), take(0, 0), add(0, 1, 6), copy(0, 1, 2), give(0, 0)), -16)

    def test_a_setter_taken_back_does_not_cut_it_off(self):
        self.assertEqual(last(put(0, 1, 5), take(0, 0), put(0, 1, 6), take(0, 1), copy(0, 1, 2), give(0, 0)), -16)

    def test_both_cells_of_an_exchange_are_asked(self):
        for cell in (1, 2):
            self.assertEqual(last(exchange(0, 1, 2), take(0, 0), copy(0, cell, 3), give(0, 0)), -16)
        before = [exchange(0, 1, 2), take(0, 0), put(0, 1, 4)]
        self.assertEqual(last(*before, copy(0, 1, 3), give(0, 0)), 0)
        self.assertEqual(last(*before, copy(0, 2, 3), give(0, 0)), -16)

    def test_a_setter_that_reads_the_cell_would_hang_on_it(self):
        for reader in (exchange(0, 1, 2), if_nought(0, 3, 1, 7), total(0, 1, 1, 1), copy(0, 1, 1)):
            self.assertEqual(last(put(0, 1, 5), take(0, 0), reader, give(0, 0)), -16)

    def test_somebody_elses_is_answered_ahead_of_the_rest(self):
        self.assertEqual(last(put(0, 1, 5), give(1, 0)), -1)
        self.assertEqual(last(put(0, 1, 5), copy(0, 1, 2), take(0, 1), take(0, 0), give(1, 1)), -1)
        self.assertEqual(last(put(0, 1, 5), take(0, 0), copy(0, 1, 2), give(1, 0)), -1)

    def test_hanging_otherwise_is_answered_ahead_of_being_hung_on(self):
        before = [put(0, 1, 5), copy(0, 1, 2), take(0, 1), take(0, 0), copy(0, 2, 3)]
        self.assertEqual(last(*before, give(0, 1)), -11)
        self.assertEqual(said(*before, give(0, 0), give(0, 1))[-2:], [0, -16])

    def test_a_refusal_changes_nothing(self):
        before = [put(0, 1, 5), copy(0, 1, 2), take(0, 1), take(0, 0), put(2, 3, 1), take(2, 2), copy(1, 3, 4)]
        for call, refused in ((give(0, 4), -2), (give(2, 0), -1), (give(1, 3), -17), (give(0, 1), -11),
                              (give(2, 2), -16)):
            with self.subTest(refused=refused):
                self.assertEqual(last(*before, call), refused)
                self.assertTrue(changes_nothing(before, call))


if __name__ == "__main__":
    unittest.main()
