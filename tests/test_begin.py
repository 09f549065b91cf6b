"""Point 1, begin."""

import unittest

from takenback.sheet import answers
from tests.calls import BEGIN, add, all_of, copy, give, last, line, put, rows, said, take, views


class Begin(unittest.TestCase):
    def test_answers_nought(self):
        self.assertEqual(answers([0]), [1, 0])

    def test_there_are_no_steps_at_first(self):
        self.assertEqual(said(take(0, 0), all_of(0, 0), give(0, 0)), [-2, -2, -2])

    def test_comes_again_and_numbers_start_anew(self):
        self.assertEqual(said(put(0, 1, 5), put(0, 2, 6), BEGIN, put(0, 1, 5)), [0, 1, 0, 0])

    def test_comes_again_and_no_step_is_left(self):
        self.assertEqual(said(put(0, 1, 5), BEGIN, take(0, 0), all_of(0, 0), give(0, 0)), [0, 0, -2, -2, -2])

    def test_comes_again_and_a_step_taken_back_is_gone(self):
        self.assertEqual(said(put(0, 1, 5), take(0, 0), BEGIN, give(0, 0)), [0, 0, 0, -2])

    def test_comes_again_and_nothing_feeds_a_cell(self):
        self.assertEqual(
            said(put(1, 1, 5), BEGIN, put(2, 3, 5), copy(0, 1, 2), take(2, 0), take(0, 1)), [0, 0, 0, 1, 0, 0])

    def test_comes_again_and_the_cells_are_noughts_and_no_step_is_there(self):
        at_first = rows(*views(3))
        self.assertEqual(at_first, [[-2]] * 8 + [[0, 0], [0]] * 32 + [[-22]] * 2)
        before = [put(0, 1, 5), add(0, 31, 6), copy(0, 1, 2), take(0, 2)]
        self.assertEqual(rows(*before, BEGIN, *views(3))[5:], at_first)

    def test_comes_again_and_there_is_room_for_256_steps(self):
        full = [put(0, 0, 0)] * 256
        self.assertEqual(last(*full, put(0, 0, 0)), -28)
        self.assertEqual(last(*full, BEGIN, *full[:100]), 99)

    def test_comes_many_times_together(self):
        self.assertEqual(answers(line([BEGIN] * 400)), [1, 0] * 400)


if __name__ == "__main__":
    unittest.main()
