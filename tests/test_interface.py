import inspect
import io
import unittest
from contextlib import redirect_stdout

from safeforever.calls import UnknownCall
from safeforever.machine import answers
from tests.helper import (DOOM, REACH, WAY, bad, counter, first, is_state,
                          join, next_bit, start)


def long_line():
    calls = [start(6, 2)] + counter(6) + [first(is_state(6, 0)), bad(is_state(6, 63))]
    calls += [first([3, 0]), next_bit(6, []), bad([4] * 60), start(9, 9)]
    while len(calls) < 40:
        calls.append((REACH, WAY, DOOM)[len(calls) % 3])
    return join(calls)


class Layout(unittest.TestCase):
    def test_takes_calls(self):
        self.assertEqual(list(inspect.signature(answers).parameters), ["calls"])

    def test_each_answer_has_its_count_before_it(self):
        self.assertEqual(answers([0, 3, 2]), [1, 8])
        self.assertEqual(answers([0, 0, 2]), [1, -1])
        self.assertEqual(answers([1, 1, 1, 0]), [1, 1])
        self.assertEqual(answers([1, 0, 2, 3, 0]), [1, 0])
        self.assertEqual(answers([1, 2, 1, 0]), [1, -2])
        self.assertEqual(answers([1, 0, 0]), [1, -1])
        self.assertEqual(answers([2, 1, 1]), [1, 4])
        self.assertEqual(answers([2, 0]), [1, -1])
        self.assertEqual(answers([3, 2, 2, 1]), [1, 2])
        self.assertEqual(answers([3, 0]), [1, -1])
        self.assertEqual(answers([4]), [2, 1, 0])
        self.assertEqual(answers([5]), [1, 0])
        self.assertEqual(answers([6]), [2, 1, 0])

    def test_calls_stand_one_behind_another(self):
        # One bit that turns: first is 0, bad is 1.
        line = [0, 1, 0, 1, 0, 3, 4, 2, 0, 2, 3, 4, 2, 0, 3, 2, 2, 0, 4, 5, 6]
        self.assertEqual(answers(line), [1, 2, 1, 0, 1, 1, 1, 1, 3, 2, 1, 2, 5, 1, 1, 0, 0, 1, 3, 2, 1, 2])

    def test_calls_behind_a_refused_row_are_read(self):
        self.assertEqual(answers([2, 0, 3, 3, 9, 9, 9, 1, 5, 2, 4, 5, 4]), [1, -1, 1, -1, 1, -2, 2, 1, 0])
        self.assertEqual(answers([2, 60] + [1] * 60 + [4]), [1, -1, 2, 1, 0])

    def test_forty_calls(self):
        self.assertEqual(answers([4] * 40), [2, 1, 0] * 40)

    def test_whole_numbers_alone(self):
        told = answers(long_line())
        self.assertIs(type(told), list)
        self.assertEqual({type(number) for number in told}, {int})

    def test_calls_of_no_known_number_are_not_guessed_at(self):
        self.assertRaises(UnknownCall, answers, [14])


class NothingElse(unittest.TestCase):
    def test_the_list_handed_in_is_not_changed(self):
        line = long_line()
        copy = list(line)
        answers(line)
        self.assertEqual(line, copy)

    def test_nothing_is_kept(self):
        line = long_line()
        told = answers(line)
        self.assertEqual(answers(line), told)
        self.assertEqual(answers([4, 5, 6]), [2, 1, 0, 1, 0, 2, 1, 0])
        self.assertEqual(answers(line), told)

    def test_what_is_given_back_is_new_each_time(self):
        line = [4]
        told = answers(line)
        told.append(7)
        self.assertEqual(answers(line), [2, 1, 0])
        self.assertEqual(line, [4])

    def test_nothing_is_printed(self):
        printed = io.StringIO()
        with redirect_stdout(printed):
            answers(long_line())
        self.assertEqual(printed.getvalue(), "")


if __name__ == "__main__":
    unittest.main()
