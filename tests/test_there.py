"""Point 9, there."""

import unittest

from tests.calls import BEGIN, TOP, all_of, changes_nothing, copy, give, put, rows, said, take, there


def states(*calls, steps=3):
    return said(*calls, *[there(n) for n in range(steps)])[-steps:]


class There(unittest.TestCase):
    def test_behind_do(self):
        self.assertEqual(said(put(0, 1, 5), there(0)), [0, 1])
        self.assertEqual(states(put(0, 1, 5), put(0, 1, 6), put(1, 2, 6)), [1, 1, 1])

    def test_one_number_is_answered(self):
        self.assertEqual(rows(put(0, 1, 5), there(0), there(1), take(0, 0), there(0))[1:], [[1], [-2], [0], [0]])

    def test_no_such_step(self):
        self.assertEqual(said(there(0), there(TOP)), [-2, -2])
        for n in (2, 3, 255, 256, TOP):
            with self.subTest(n=n):
                self.assertEqual(said(put(0, 1, 5), put(0, 1, 6), there(n))[-1], -2)

    def test_a_step_that_was_refused_is_no_step(self):
        self.assertEqual(said(put(16, 1, 5), there(0)), [-22, -2])

    def test_the_last_step_and_the_one_behind_it(self):
        self.assertEqual(said(put(0, 1, 5), put(0, 1, 6), there(1), there(2))[2:], [1, -2])
        self.assertEqual(said(*[put(0, 1, 5)] * 256, there(255), there(256))[256:], [1, -2])
        self.assertEqual(said(*[put(0, 1, 5)] * 257, there(255), there(256))[256:], [-28, 1, -2])

    def test_behind_take(self):
        self.assertEqual(states(put(0, 1, 5), put(0, 1, 6), put(0, 2, 6), take(0, 1)), [1, 0, 1])
        self.assertEqual(states(put(0, 1, 5), put(0, 1, 6), put(0, 2, 6), take(0, 2), take(0, 0)), [0, 1, 0])

    def test_behind_all(self):
        before = [put(0, 1, 5), copy(0, 1, 2), put(0, 3, 6)]
        self.assertEqual(states(*before, all_of(0, 0)), [0, 0, 1])
        self.assertEqual(states(*before, all_of(0, 1)), [1, 0, 1])

    def test_behind_give(self):
        before = [put(0, 1, 5), copy(0, 1, 2), put(0, 3, 6), all_of(0, 0)]
        self.assertEqual(states(*before, give(0, 0)), [1, 0, 1])
        self.assertEqual(states(*before, give(0, 0), give(0, 1)), [1, 1, 1])

    def test_behind_a_refused_take(self):
        before = [put(0, 1, 5), copy(1, 1, 2), put(0, 3, 6), take(0, 2)]
        for call, refused in ((take(0, 3), -2), (take(1, 0), -1), (take(0, 2), -17), (take(0, 0), -16)):
            with self.subTest(refused=refused):
                self.assertEqual(said(*before, call)[-1], refused)
                self.assertEqual(states(*before, call), [1, 1, 0])

    def test_behind_a_refused_all(self):
        before = [put(0, 1, 5), copy(1, 1, 2), put(0, 3, 6), take(0, 2)]
        for call, refused in ((all_of(0, 3), -2), (all_of(1, 0), -1), (all_of(0, 2), -17), (all_of(0, 0), -13)):
            with self.subTest(refused=refused):
                self.assertEqual(said(*before, call)[-1], refused)
                self.assertEqual(states(*before, call), [1, 1, 0])

    def test_behind_a_refused_give(self):
        before = [put(0, 1, 5), copy(0, 1, 2), all_of(0, 0), copy(1, 1, 2)]
        for call, refused in ((give(0, 3), -2), (give(1, 0), -1), (give(1, 2), -17), (give(0, 1), -11),
                              (give(0, 0), -16)):
            with self.subTest(refused=refused):
                self.assertEqual(said(*before, call)[-1], refused)
                self.assertEqual(states(*before, call), [0, 0, 1])

    def test_behind_another_begin(self):
        self.assertEqual(said(put(0, 1, 5), put(0, 1, 5), BEGIN, there(0), there(1))[3:], [-2, -2])
        self.assertEqual(said(put(0, 1, 5), take(0, 0), BEGIN, put(0, 1, 5), there(0), there(1))[4:], [1, -2])

    def test_it_changes_nothing(self):
        before = [put(0, 1, 5), copy(1, 1, 2), put(0, 1, 6), take(0, 2)]
        for n in (0, 1, 2, 3, TOP):
            self.assertTrue(changes_nothing(before, there(n)))


if __name__ == "__main__":
    unittest.main()
