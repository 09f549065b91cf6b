"""How calls lie in the list, the form of what is given back, and that nothing is kept or changed."""

import contextlib
import io
import unittest
import unittest.mock

from takenback.sheet import answers
from tests.calls import (
    BEGIN, all_of, apart, cell, copy, from_cell, give, hang, line, mixed, put, take, there)


class ReadOnly(list):
    """A list that refuses to be changed, for a while either."""

    def refuse(self, *given):
        raise AssertionError("what is handed in was changed")

    append = extend = insert = pop = remove = clear = sort = reverse = refuse
    __setitem__ = __delitem__ = __iadd__ = __imul__ = refuse


def long_line():
    return mixed(7, 400, 2, 6)


class Interface(unittest.TestCase):
    def test_by_its_numbers(self):
        calls = [0,
                 1, 4, 0, 7, 0, 0, 9,
                 1, 4, 2, 7, 8, 0, 0,
                 2, 4, 0,
                 3, 4, 0,
                 4, 4, 1,
                 4, 4, 0]
        self.assertEqual(answers(calls), [1, 0, 1, 0, 1, 1, 1, -16, 1, 2, 1, -11, 1, 0])

    def test_the_asking_calls_by_their_numbers(self):
        calls = [0,
                 1, 4, 0, 7, 0, 0, 9,
                 1, 4, 2, 7, 8, 0, 0,
                 5, 8,
                 5, 6,
                 5, 32,
                 6, 0,
                 6, 1,
                 6, 2,
                 7, 8,
                 7, 6,
                 7, 32,
                 8, 1,
                 8, 2,
                 2, 4, 1,
                 8, 1,
                 5, 8]
        self.assertEqual(answers(calls), [1, 0,
                                          1, 0,
                                          1, 1,
                                          2, 0, 9,
                                          2, 0, 0,
                                          1, -22,
                                          2, 1, 1,
                                          1, 0,
                                          1, -2,
                                          3, 2, 0, 1,
                                          1, 0,
                                          1, -22,
                                          1, 1,
                                          1, -2,
                                          1, 0,
                                          1, 0,
                                          2, 0, 0])

    def test_whole_numbers_alone_are_given_back(self):
        told = answers(line(long_line()))
        self.assertIs(type(told), list)
        self.assertEqual({type(number) for number in told}, {int})

    def test_400_calls_of_all_nine_kinds(self):
        calls = long_line()
        told = apart(answers(line(calls)))
        self.assertEqual(len(calls), 400)
        self.assertEqual({call[0] for call in calls}, set(range(9)))
        self.assertEqual(len(told), 400)
        for number in (-1, -2, -11, -13, -16, -17, -22, 0, 2):
            self.assertIn([number], told)
        for call, row in zip(calls, told):
            with self.subTest(call=call):
                if call[0] in (6, 7) and row[0] >= 0:
                    self.assertEqual(len(row), 1 + row[0])
                else:
                    self.assertEqual(len(row), 2 if call[0] == 5 else 1)

    def test_400_calls_with_256_steps_each_on_the_one_before(self):
        chain = [put(0, 0, 7)] + [copy(0, n % 32, (n + 1) % 32) for n in range(255)]
        behind = [hang(n) for n in range(76)] + [from_cell(31)] * 33 + [cell(31)] * 33 + [there(255)]
        told = apart(answers(line([BEGIN] + chain + behind)))
        self.assertEqual(len(told), 400)
        self.assertEqual(told[257:], [[1, n + 1] for n in range(76)] + [[256] + list(range(256))] * 33
                         + [[0, 7]] * 33 + [[1]])

    def test_400_calls_of_one_chain(self):
        chain = [put(0, 0, 7)] + [copy(0, n % 32, (n + 1) % 32) for n in range(255)]
        behind = [all_of(0, 0)] + [give(0, n) for n in range(142)]
        told = answers(line([BEGIN] + chain + behind))
        self.assertEqual(told[1::2], [0] + list(range(256)) + [256] + [0] * 142)

    def test_what_is_handed_in_is_as_it_was(self):
        calls = line(long_line())
        kept = list(calls)
        answers(calls)
        self.assertEqual(calls, kept)

    def test_what_is_handed_in_is_not_changed_for_a_while_either(self):
        calls = line(long_line())
        self.assertEqual(answers(ReadOnly(calls)), answers(calls))

    def test_two_runs_answer_the_same(self):
        calls = line(long_line())
        self.assertEqual(answers(calls), answers(calls))

    def test_nothing_is_kept_from_one_time_to_the_next(self):
        calls = line([BEGIN, take(0, 0), there(0), cell(1), from_cell(1), put(0, 1, 5)])
        for again in range(3):
            self.assertEqual(answers(calls), [1, 0, 1, -2, 1, -2, 2, 0, 0, 1, 0, 1, 0])

    def test_what_is_given_back_may_be_changed_freely(self):
        calls = line([BEGIN, put(0, 1, 5)])
        told = answers(calls)
        told.append(7)
        self.assertEqual(answers(calls), [1, 0, 1, 0])

    def test_nothing_is_printed(self):
        out = io.StringIO()
        with contextlib.redirect_stdout(out), contextlib.redirect_stderr(out):
            answers(line(long_line()))
        self.assertEqual(out.getvalue(), "")

    def test_nothing_is_read_or_imported(self):
        calls = line(long_line())
        expected = answers(calls)
        barred = AssertionError("answers reached outside itself")
        with contextlib.ExitStack() as stack:
            for name in ("open", "input", "print", "__import__"):
                stack.enter_context(unittest.mock.patch(f"builtins.{name}", side_effect=barred))
            told = answers(calls)
        self.assertEqual(told, expected)


if __name__ == "__main__":
    unittest.main()
