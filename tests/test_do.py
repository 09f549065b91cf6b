"""Point 2, do."""

import unittest

from tests.calls import (
    TOP, add, changes_nothing, copy, do, exchange, if_nought, last, put, said, take, total)

# For each kind, which of a, b, c, v it names.
NAMED = ("av", "av", "ab", "abc", "ab", "abv")


def with_one(kind, name, number):
    given = {"a": 0, "b": 0, "c": 0, "v": 0}
    given[name] = number
    return do(0, kind, given["a"], given["b"], given["c"], given["v"])


class Do(unittest.TestCase):
    def test_answers_the_numbers_from_nought(self):
        calls = [put(0, 1, 5), add(1, 1, 2), copy(2, 1, 2), total(3, 1, 2, 3), exchange(4, 1, 2), if_nought(5, 1, 2, 9)]
        self.assertEqual(said(*calls), [0, 1, 2, 3, 4, 5])

    def test_a_step_is_there_at_once(self):
        self.assertEqual(said(put(0, 1, 5), [4, 0, 0]), [0, -17])

    def test_a_number_is_not_used_again(self):
        self.assertEqual(said(put(0, 1, 5), take(0, 0), put(0, 1, 5)), [0, 0, 1])

    def test_who(self):
        for kind in range(6):
            self.assertEqual(last(do(0, kind)), 0)
            self.assertEqual(last(do(15, kind)), 0)
            self.assertEqual(last(do(16, kind)), -22)
            self.assertEqual(last(do(TOP, kind)), -22)

    def test_kind(self):
        self.assertEqual(last(do(0, 5)), 0)
        self.assertEqual(last(do(0, 6)), -22)
        self.assertEqual(last(do(0, TOP)), -22)

    def test_each_named_cell(self):
        for kind in range(6):
            for name in NAMED[kind].replace("v", ""):
                with self.subTest(kind=kind, name=name):
                    self.assertEqual(last(with_one(kind, name, 31)), 0)
                    self.assertEqual(last(with_one(kind, name, 32)), -22)
                    self.assertEqual(last(with_one(kind, name, TOP)), -22)

    def test_each_that_is_not_named(self):
        for kind in range(6):
            for name in "abcv":
                if name not in NAMED[kind]:
                    with self.subTest(kind=kind, name=name):
                        self.assertEqual(last(with_one(kind, name, 0)), 0)
                        self.assertEqual(last(with_one(kind, name, 1)), -22)
                        self.assertEqual(last(with_one(kind, name, TOP)), -22)

    def test_the_number_where_it_is_named(self):
        for kind in (0, 1, 5):
            for number in (0, 1, 31, 32, TOP):
                with self.subTest(kind=kind, number=number):
                    self.assertEqual(last(with_one(kind, "v", number)), 0)

    def test_all_cells_named_at_31(self):
        calls = [put(0, 31, TOP), add(0, 31, TOP), copy(0, 31, 31), total(0, 31, 31, 31), exchange(0, 31, 31),
                 if_nought(0, 31, 31, TOP)]
        self.assertEqual(said(*calls), [0, 1, 2, 3, 4, 5])

    def test_the_256th_and_the_one_behind_it(self):
        self.assertEqual(said(*[put(0, 0, 0)] * 258), list(range(256)) + [-28, -28])

    def test_steps_taken_back_count_as_done(self):
        full = [put(0, n % 32, 0) for n in range(256)]
        back = [take(0, n) for n in range(100)]
        self.assertEqual(said(*full, *back, put(0, 0, 0))[256:], [0] * 100 + [-28])

    def test_wrong_is_answered_ahead_of_full(self):
        full = [put(0, 0, 0)] * 256
        for wrong in (do(16, 0), do(0, 6), do(0, 0, 32), do(0, 0, 0, 1), do(0, 2, v=1)):
            self.assertEqual(last(*full, wrong), -22)

    def test_a_refused_step_has_no_number(self):
        self.assertEqual(said(put(0, 1, 5), do(16, 0), do(0, 6), do(0, 0, 32), put(0, 1, 5)), [0, -22, -22, -22, 1])

    def test_a_refusal_changes_nothing(self):
        before = [put(0, 1, 5), copy(1, 1, 2), put(2, 3, 1), take(2, 2)]
        for wrong in (do(16, 0, 1), do(0, 6), do(0, 2, 1, 32), do(0, 0, 1, 1), do(0, 3, 1, 2, 32), do(0, 4, 1, 2, 0, 7)):
            self.assertEqual(last(*before, wrong), -22)
            self.assertTrue(changes_nothing(before, wrong))

    def test_a_refusal_where_it_is_full_changes_nothing(self):
        full = [put(0, n % 32, 0) for n in range(256)]
        behind = [take(0, n) for n in range(30)] + [take(0, 255), put(0, 0, 0)]
        self.assertEqual(said(*full, copy(0, 1, 2), *behind)[257:], said(*full, *behind)[256:])


if __name__ == "__main__":
    unittest.main()
