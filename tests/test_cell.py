"""Point 6, cell."""

import unittest

from tests.calls import (
    BEGIN, TOP, add, all_of, cell, changes_nothing, copy, exchange, give, if_nought, last_row, put, rows, take,
    total, values)


class Cell(unittest.TestCase):
    def test_0_and_the_value(self):
        self.assertEqual(last_row(put(0, 1, 5), cell(1)), [0, 5])

    def test_noughts_at_first(self):
        self.assertEqual(rows(*[cell(c) for c in range(32)]), [[0, 0]] * 32)

    def test_the_last_cell(self):
        self.assertEqual(last_row(cell(31)), [0, 0])
        self.assertEqual(last_row(put(0, 31, 7), cell(31)), [0, 7])

    def test_a_cell_above_31(self):
        for c in (32, 33, 256, TOP):
            with self.subTest(c=c):
                self.assertEqual(last_row(cell(c)), [-22])
                self.assertEqual(last_row(put(0, 31, 7), cell(c)), [-22])

    def test_put(self):
        self.assertEqual(values(put(0, 31, 5), put(0, 0, TOP)), {31: 5, 0: TOP})

    def test_a_put_over_what_was_there(self):
        self.assertEqual(values(put(0, 1, 5), add(0, 1, 3), put(0, 1, 2)), {1: 2})
        self.assertEqual(values(put(0, 1, 5), put(0, 1, 0)), {})

    def test_add(self):
        self.assertEqual(values(put(0, 1, 5), add(0, 1, 6), add(0, 2, 7)), {1: 11, 2: 7})

    def test_copy(self):
        self.assertEqual(values(put(0, 1, 5), put(0, 2, 6), copy(0, 1, 2), copy(0, 3, 1)), {2: 5})

    def test_sum(self):
        self.assertEqual(values(put(0, 1, 5), put(0, 2, 6), put(0, 3, 9), total(0, 1, 2, 3)), {1: 5, 2: 6, 3: 11})

    def test_a_sum_into_one_that_it_reads(self):
        self.assertEqual(values(put(0, 1, 5), put(0, 2, 6), total(0, 1, 2, 1)), {1: 11, 2: 6})
        self.assertEqual(values(put(0, 1, 5), put(0, 2, 6), total(0, 1, 2, 2)), {1: 5, 2: 11})

    def test_exchange(self):
        self.assertEqual(values(put(0, 1, 5), put(0, 2, 6), exchange(0, 1, 2)), {1: 6, 2: 5})
        self.assertEqual(values(put(0, 1, 5), exchange(0, 1, 2)), {2: 5})

    def test_if_nought(self):
        self.assertEqual(values(put(0, 2, 6), if_nought(0, 1, 2, 7)), {2: 7})
        self.assertEqual(values(put(0, 2, 6), if_nought(0, 1, 2, 0)), {})

    def test_if_nought_where_it_is_not(self):
        self.assertEqual(values(put(0, 1, 1), put(0, 2, 6), if_nought(0, 1, 2, 7)), {1: 1, 2: 6})
        self.assertEqual(values(put(0, 1, 1), if_nought(0, 1, 2, 7)), {1: 1})

    def test_each_step_sees_what_those_before_it_made(self):
        self.assertEqual(values(put(0, 1, 5), copy(0, 1, 2), add(0, 1, 1), total(0, 1, 2, 3), exchange(0, 3, 4),
                                if_nought(0, 3, 5, 9), put(0, 1, 2)), {1: 2, 2: 5, 4: 11, 5: 9})

    def test_past_the_top_number(self):
        self.assertEqual(values(put(0, 1, TOP), add(0, 1, 1)), {})
        self.assertEqual(values(put(0, 1, TOP), add(0, 1, 2)), {1: 1})
        self.assertEqual(values(add(0, 1, TOP), add(0, 1, TOP)), {1: TOP - 1})
        self.assertEqual(values(put(0, 1, TOP), put(0, 2, 3), total(0, 1, 2, 3)), {1: TOP, 2: 3, 3: 2})
        self.assertEqual(values(put(0, 1, TOP), total(0, 1, 1, 1)), {1: TOP - 1})

    def test_the_top_number_itself_stays(self):
        self.assertEqual(values(put(0, 1, TOP - 1), add(0, 1, 1)), {1: TOP})
        self.assertEqual(values(if_nought(0, 1, 2, TOP), copy(0, 2, 3), exchange(0, 3, 4)), {2: TOP, 4: TOP})

    def test_doubled_until_nothing_is_left(self):
        before = [put(0, 1, 1)] + [total(0, 1, 1, 1)] * 32
        self.assertEqual(values(*before[:32]), {1: 2147483648})
        self.assertEqual(values(*before), {})

    def test_behind_a_take(self):
        before = [put(0, 1, 5), add(0, 1, 6), put(0, 2, 3)]
        self.assertEqual(values(*before, take(0, 1)), {1: 5, 2: 3})
        self.assertEqual(values(*before, take(0, 0)), {1: 6, 2: 3})
        self.assertEqual(values(*before, take(0, 0), take(0, 1), take(0, 2)), {})

    def test_behind_a_take_of_what_was_put_over(self):
        self.assertEqual(values(put(0, 1, 5), put(0, 1, 6), take(0, 0)), {1: 6})
        self.assertEqual(values(put(0, 1, 5), put(0, 1, 6), take(0, 1)), {1: 5})

    def test_behind_an_all(self):
        before = [put(0, 1, 5), copy(0, 1, 2), add(0, 2, 1), total(0, 1, 2, 3), put(0, 4, 8)]
        self.assertEqual(values(*before), {1: 5, 2: 6, 3: 11, 4: 8})
        self.assertEqual(values(*before, all_of(0, 0)), {2: 1, 4: 8})
        self.assertEqual(values(*before, all_of(0, 2)), {1: 5, 2: 5, 4: 8})

    def test_behind_a_give(self):
        before = [put(0, 1, 5), add(0, 1, 6), put(0, 2, 3)]
        self.assertEqual(values(*before, take(0, 1), give(0, 1)), {1: 11, 2: 3})
        self.assertEqual(values(*before, take(0, 0), give(0, 0)), {1: 11, 2: 3})
        self.assertEqual(values(*before, take(0, 0), put(0, 1, 1), give(0, 0)), {1: 1, 2: 3})

    def test_behind_what_was_refused(self):
        before = [put(0, 1, 5), copy(1, 1, 2), put(0, 3, 1), take(0, 2)]
        seen = values(*before)
        self.assertEqual(seen, {1: 5, 2: 5})
        for call in (take(0, 0), all_of(0, 0), give(1, 2), put(16, 1, 9), put(0, 32, 9)):
            self.assertEqual(values(*before, call), seen)

    def test_behind_another_begin(self):
        self.assertEqual(values(put(0, 1, 5), add(0, 2, 6), BEGIN), {})
        self.assertEqual(values(put(0, 1, 5), BEGIN, add(0, 1, 6)), {1: 6})

    def test_it_changes_nothing(self):
        before = [put(0, 1, 5), copy(1, 1, 2), put(0, 1, 6), take(0, 2)]
        for c in (0, 1, 2, 31, 32, TOP):
            self.assertTrue(changes_nothing(before, cell(c)))


if __name__ == "__main__":
    unittest.main()
