"""The corners that the document names, and what is in the cells there."""

import unittest

from takenback.cells import contents
from takenback.sheet import Sheet, answer
from tests.calls import (
    TOP, add, all_of, copy, exchange, give, if_nought, last, put, said, take, total)


def sheet_after(*calls):
    sheet = Sheet()
    sheet.begin()
    for call in calls:
        answer(sheet, call[0], call[1:])
    return sheet


def held(*calls):
    """What is in the cells after these calls, those with 0 left out."""
    found = contents(sheet_after(*calls).steps)
    if len(found) != 32:
        raise AssertionError(f"not 32 cells: {found}")
    return {cell: number for cell, number in enumerate(found) if number != 0}


def hung_on(*calls):
    """For each step the steps that it hung on when it was done."""
    return [step.hung_on for step in sheet_after(*calls).steps]


class Kinds(unittest.TestCase):
    def test_noughts_at_first(self):
        self.assertEqual(held(), {})

    def test_put(self):
        self.assertEqual(held(put(0, 31, 5), put(0, 0, TOP)), {31: 5, 0: TOP})

    def test_add(self):
        self.assertEqual(held(put(0, 1, 5), add(0, 1, 6), add(0, 2, 7)), {1: 11, 2: 7})

    def test_copy(self):
        self.assertEqual(held(put(0, 1, 5), put(0, 2, 6), copy(0, 1, 2), copy(0, 3, 1)), {2: 5})

    def test_sum(self):
        self.assertEqual(held(put(0, 1, 5), put(0, 2, 6), put(0, 3, 9), total(0, 1, 2, 3)), {1: 5, 2: 6, 3: 11})

    def test_exchange(self):
        self.assertEqual(held(put(0, 1, 5), put(0, 2, 6), exchange(0, 1, 2)), {1: 6, 2: 5})

    def test_if_nought(self):
        self.assertEqual(held(put(0, 2, 6), if_nought(0, 1, 2, 7)), {2: 7})

    def test_only_what_is_there_counts(self):
        before = [put(0, 1, 5), add(0, 1, 6), put(0, 2, 3)]
        self.assertEqual(held(*before, take(0, 1)), {1: 5, 2: 3})
        self.assertEqual(held(*before, take(0, 1), give(0, 1)), {1: 11, 2: 3})
        self.assertEqual(held(*before, take(0, 0)), {1: 6, 2: 3})
        self.assertEqual(held(*before, [0]), {})

    def test_what_each_kind_hangs_on(self):
        before = [put(0, 1, 5), put(0, 2, 6), put(0, 3, 7)]
        for step, steps in ((put(0, 1, 5), []), (add(0, 1, 5), []), (copy(0, 1, 2), [0]), (total(0, 2, 1, 3), [0, 1]),
                            (exchange(0, 2, 1), [0, 1]), (if_nought(0, 1, 2, 7), [0, 1])):
            with self.subTest(step=step):
                self.assertEqual(hung_on(*before, step)[3], steps)

    def test_what_each_kind_feeds(self):
        before = [put(0, 1, 5), put(0, 2, 6), put(0, 3, 7)]
        for step, one, two, three in (
                (put(0, 1, 5), [3], [1], [2]), (add(0, 1, 5), [0, 3], [1], [2]), (copy(0, 1, 2), [0], [3], [2]),
                (total(0, 1, 2, 3), [0], [1], [3]), (exchange(0, 1, 2), [3], [3], [2]),
                (if_nought(0, 1, 2, 7), [0], [3], [2])):
            with self.subTest(step=step):
                told = hung_on(*before, step, copy(0, 1, 10), copy(0, 2, 11), copy(0, 3, 12))
                self.assertEqual(told[4:], [one, two, three])


class Corners(unittest.TestCase):
    def test_an_add_between_a_put_and_a_copy(self):
        before = [put(0, 1, 5), add(1, 1, 2), copy(2, 1, 2)]
        self.assertEqual(hung_on(*before), [[], [], [0, 1]])
        self.assertEqual(held(*before), {1: 7, 2: 7})
        self.assertEqual(said(*before, take(0, 0), take(1, 1))[-2:], [-16, -16])
        self.assertEqual(said(*before, take(2, 2), take(1, 1), give(2, 2), give(1, 1), give(2, 2))[-3:], [-11, 0, 0])

    def test_an_add_behind_the_copy_is_nothing_to_it(self):
        before = [put(0, 1, 5), copy(0, 1, 2), add(0, 1, 2)]
        self.assertEqual(said(*before, take(0, 2), give(0, 2), all_of(0, 0))[-3:], [0, 0, 2])

    def test_a_cell_that_nobody_set_added_to(self):
        before = [add(0, 1, 5), add(1, 1, 2), copy(2, 1, 2)]
        self.assertEqual(hung_on(*before), [[], [], [0, 1]])
        self.assertEqual(held(*before), {1: 7, 2: 7})
        self.assertEqual(said(*before, take(0, 0), take(1, 1), all_of(0, 0))[-3:], [-16, -16, -13])
        self.assertEqual(said(*before, take(2, 2), take(0, 0), take(1, 1), give(2, 2))[-4:], [0, 0, 0, -11])

    def test_a_cell_that_nobody_set_nor_added_to(self):
        self.assertEqual(hung_on(copy(0, 1, 2)), [[]])
        self.assertEqual(said(copy(0, 1, 2), take(0, 0), give(0, 0)), [0, 0, 0])

    def test_an_exchange_of_a_cell_with_itself(self):
        before = [put(0, 1, 5), add(0, 1, 1), exchange(0, 1, 1), copy(0, 1, 2)]
        self.assertEqual(hung_on(*before), [[], [], [0, 1], [2]])
        self.assertEqual(held(*before), {1: 6, 2: 6})
        self.assertEqual([last(*before, take(0, n)) for n in range(4)], [-16, -16, -16, 0])
        self.assertEqual([last(*before, all_of(0, n)) for n in range(4)], [3, 3, 2, 1])

    def test_a_sum_of_a_cell_with_itself_into_itself(self):
        before = [put(0, 1, 5), total(0, 1, 1, 1), total(0, 1, 1, 1), copy(0, 1, 2)]
        self.assertEqual(hung_on(*before), [[], [0], [1], [2]])
        self.assertEqual(held(*before), {1: 20, 2: 20})
        self.assertEqual([last(*before, take(0, n)) for n in range(4)], [-16, -16, -16, 0])
        self.assertEqual([last(*before, all_of(0, n)) for n in range(4)], [4, 3, 2, 1])

    def test_a_copy_of_a_cell_into_itself(self):
        before = [put(0, 1, 5), copy(0, 1, 1), copy(0, 1, 2)]
        self.assertEqual(hung_on(*before), [[], [0], [1]])
        self.assertEqual(held(*before), {1: 5, 2: 5})

    def test_an_if_nought_that_does_nothing(self):
        before = [put(0, 1, 5), put(0, 2, 6), if_nought(0, 1, 2, 7), copy(0, 2, 3)]
        self.assertEqual(hung_on(*before), [[], [], [0, 1], [2]])
        self.assertEqual(held(*before), {1: 5, 2: 6, 3: 6})
        self.assertEqual([last(*before, take(0, n)) for n in range(4)], [-16, -16, -16, 0])
        self.assertEqual([last(*before, all_of(0, n)) for n in range(4)], [3, 3, 2, 1])

    def test_an_if_nought_of_a_cell_with_itself(self):
        self.assertEqual(held(if_nought(0, 1, 1, 7), if_nought(0, 1, 1, 8)), {1: 7})
        self.assertEqual(hung_on(add(0, 1, 0), if_nought(0, 1, 1, 7), if_nought(0, 1, 1, 8)), [[], [0], [1]])

    def test_a_put_over_a_put(self):
        before = [put(0, 1, 5), put(1, 1, 6), copy(2, 1, 2)]
        self.assertEqual(held(*before), {1: 6, 2: 6})
        self.assertEqual(hung_on(*before), [[], [], [1]])
        self.assertEqual(said(*before, take(0, 0), take(1, 1))[-2:], [0, -16])
        self.assertEqual(held(put(0, 1, 5), put(0, 1, 6), take(0, 1)), {1: 5})

    def test_given_back_where_another_has_been_done_over_it(self):
        before = [put(0, 1, 5), take(0, 0), put(1, 1, 6), give(0, 0)]
        self.assertEqual(said(*before)[-1], 0)
        self.assertEqual(held(*before), {1: 6})
        self.assertEqual(held(*before, take(1, 1)), {1: 5})

    def test_given_back_where_what_it_read_was_taken_back(self):
        before = [put(0, 1, 5), copy(1, 1, 2), take(1, 1), take(0, 0)]
        self.assertEqual(said(*before, give(1, 1))[-1], -11)
        self.assertEqual(held(*before, give(1, 1)), {})
        self.assertEqual(held(*before, give(0, 0), give(1, 1)), {1: 5, 2: 5})

    def test_given_back_where_what_it_read_was_taken_back_and_another_came(self):
        before = [put(0, 1, 5), copy(1, 1, 2), take(1, 1), take(0, 0), put(0, 1, 5)]
        self.assertEqual(last(*before, give(1, 1)), -11)

    def test_the_top_number_and_1_added(self):
        before = [put(0, 1, TOP), add(1, 1, 1)]
        self.assertEqual(said(*before), [0, 1])
        self.assertEqual(held(*before), {})
        self.assertEqual(held(*before, add(0, 1, TOP)), {1: TOP})
        self.assertEqual(held(*before, if_nought(0, 1, 2, 7)), {2: 7})
        self.assertEqual(held(put(0, 1, TOP), put(0, 2, 3), total(0, 1, 2, 3)), {1: TOP, 2: 3, 3: 2})

    def test_an_add_of_nought_feeds_all_the_same(self):
        self.assertEqual(last(add(0, 1, 0), copy(0, 1, 2), take(0, 0)), -16)


if __name__ == "__main__":
    unittest.main()
