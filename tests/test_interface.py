import inspect
import io
import sys
import unittest
from contextlib import redirect_stdout

from safeforever.machine import answers
from tests.helper import (DOOM, LEAST, REACH, STEPS, WAY, bad, claim, counter, far, first, is_state,
                          join, keep, next_bit, proof, split, start, step)
from tests.reckoned import Reckoned

HUGE = 4294967295


def long_line():
    """Each call, and each refused, on a machine whose runs are long."""
    calls = [start(6, 2)] + counter(6) + [first(is_state(6, 0)), bad(is_state(6, 63))]
    calls += [first([3, 0]), next_bit(6, []), bad([4] * 60), start(9, 9)]
    calls += [proof(7), claim([4] * 60), keep(*[[]] * 300), step(64, 4), far(HUGE)]
    calls += [REACH, WAY, DOOM, proof(2), proof(6), LEAST, STEPS, claim([4, 2, 5]), claim([4] * 39 + [1]),
              keep(*[[-1, 2]] * 20), keep([6] * 299), keep(), step(63, 3), step(9, 1), far(0), far(63)]
    while len(calls) < 40:
        calls.append((REACH, WAY, DOOM)[len(calls) % 3])
    return join(calls)


class Layout(unittest.TestCase):
    def test_takes_calls(self):
        self.assertEqual(list(inspect.signature(answers).parameters), ["calls"])

    def test_each_answer_has_its_count_before_it(self):
        self.assertEqual(answers([0, 3, 2]), [1, 8])
        self.assertEqual(answers([0, 0, 2]), [1, -1])
        self.assertEqual(answers([1, 1, 1, 0]), [1, 1])
        self.assertEqual(answers([1, 0, 2, 3, 0]), [1, 0])
        self.assertEqual(answers([1, 2, 1, 0]), [1, -2])
        self.assertEqual(answers([1, 0, 0]), [1, -1])
        self.assertEqual(answers([2, 1, 1]), [1, 4])
        self.assertEqual(answers([2, 0]), [1, -1])
        self.assertEqual(answers([3, 2, 2, 1]), [1, 2])
        self.assertEqual(answers([3, 0]), [1, -1])
        self.assertEqual(answers([4]), [2, 1, 0])
        self.assertEqual(answers([5]), [1, 0])
        self.assertEqual(answers([6]), [2, 1, 0])
        self.assertEqual(answers([7, 2]), [4, 1, 0, 1, 0])
        self.assertEqual(answers([7, 3]), [1, -1])
        self.assertEqual(answers([8]), [2, 1, 0])
        self.assertEqual(answers([9]), [2, 1, 0])
        self.assertEqual(answers([10, 2, 2, 0]), [1, 1])
        self.assertEqual(answers([10, 0]), [1, -1])
        self.assertEqual(answers([11, 0]), [2, 0, 1])
        self.assertEqual(answers([11, 5, 1, -1, 2, 2, 1]), [4, 2, 0, 1, 1])
        self.assertEqual(answers([11, 1, 0]), [1, -1])
        self.assertEqual(answers([12, 3, 1]), [1, 3])
        self.assertEqual(answers([12, 4, 0]), [1, -2])
        self.assertEqual(answers([13, 3]), [1, 0])
        self.assertEqual(answers([13, 4]), [1, -2])

    def test_answers_of_several_numbers_have_no_other_count(self):
        # One bit that turns by the input: first is 0, bad is 1.
        told = [0, 1, 1, 1, 0, 5, 7, 2, 0, 3, 0, 2, 3, 4, 2, 0, 3, 2, 2, 0]
        before = [1, 2, 1, 0, 1, 1, 1, 1]
        for asked, answer in (([7, 1], [3, 0, 2, 0]), ([8], [1, 0]), ([9], [1, 0]), ([10, 2, 2, 0], [3, 0, 1, 0]),
                              ([10, 3, 4, 2, 0], [4, 0, 2, 0, 1]), ([10, 1, 1], [3, 0, 3, 1]),
                              ([11, 5, 1, -1, 2, 1, -1], [3, 1, 1, 0]), ([12, 1, 1], [1, 0]), ([13, 0], [2, 1, 1])):
            self.assertEqual(answers(told + asked), before + answer)
        self.assertEqual(answers([2, 3, 4, 2, 0, 7, 1]), [1, 2, 5, 1, 2, 1, 1, -1])

    def test_calls_stand_one_behind_another(self):
        # One bit that turns: first is 0, bad is 1.
        line = [0, 1, 0, 1, 0, 3, 4, 2, 0, 2, 3, 4, 2, 0, 3, 2, 2, 0, 4, 5, 6]
        self.assertEqual(answers(line), [1, 2, 1, 0, 1, 1, 1, 1, 3, 2, 1, 2, 5, 1, 1, 0, 0, 1, 3, 2, 1, 2])

    def test_calls_behind_a_refused_row_are_read(self):
        self.assertEqual(answers([2, 0, 3, 3, 9, 9, 9, 1, 5, 2, 4, 5, 4]), [1, -1, 1, -1, 1, -2, 2, 1, 0])
        self.assertEqual(answers([2, 60] + [1] * 60 + [4]), [1, -1, 2, 1, 0])
        self.assertEqual(answers([10, 3, 9, 9, 9, 11, 4, 2, 1, 3, 0, 7, 3, 12, 4, 9, 13, 4, 8]),
                         [1, -1, 1, -1, 1, -1, 1, -2, 1, -2, 2, 1, 0])
        self.assertEqual(answers([11, 300] + [0] * 300 + [8]), [1, -1, 2, 1, 0])

    def test_forty_calls(self):
        self.assertEqual(answers([4] * 40), [2, 1, 0] * 40)

    def test_whole_numbers_alone(self):
        told = answers(long_line())
        self.assertIs(type(told), list)
        self.assertEqual({type(number) for number in told}, {int})


class WholeLine(unittest.TestCase):
    def setUp(self):
        # By input 0 each bit goes one up, and round; by input 1 bit 3 is 0.
        self.nexts = [[8, 3, 0, 2, (bit - 1) % 6, 2, bit] for bit in range(6)]
        self.nexts[3] = [5, 4, 3, 1] + self.nexts[3]
        self.told = [start(6, 2)] + [next_bit(bit, condition) for bit, condition in enumerate(self.nexts)]

    def check(self, firsts, bads):
        reckoned = Reckoned(6, 2, self.nexts, firsts, bads)
        calls = self.told + [first(firsts), bad(bads), REACH, WAY, DOOM, LEAST, STEPS]
        wanted = [[64]] + [[bit] for bit in range(6)] + [[len(reckoned.firsts)], [len(reckoned.bads)]]
        wanted += [reckoned.reach(), reckoned.way(), reckoned.doom(), reckoned.least(), reckoned.steps()]
        calls += [start(7, 2), next_bit(6, [1]), first([3, 1]), bad([2, 6]), proof(7), claim([2, 6]), keep([7]),
                  step(64, 0), step(0, 4), far(64)]
        wanted += [[-1], [-2], [-1], [-1], [-1], [-1], [-1], [-2], [-2], [-2]]
        for w in range(7):
            calls.append(proof(w))
            wanted.append(reckoned.proof(w))
        for condition in ([4] + bads, [4, 5, 2, 2, 2, 3], [1]):
            calls.append(claim(condition))
            wanted.append(reckoned.claim(condition))
        for clauses in ([[-1, -2], [-2, -3], [-3, -4], [-4, -5], [-5, -6], [-1, -6]], [[1, 2, 3], [-6]]):
            calls.append(keep(*clauses))
            wanted.append(reckoned.keep(clauses))
        for state in (1, 36):
            calls += [step(state, 3), far(state)]
            wanted += [[reckoned.step(state, 3)], reckoned.far(state)]
        self.assertEqual(len(calls), 40)
        self.assertEqual(split(answers(join(calls))), wanted)

    def test_safe(self):
        self.check(is_state(6, 1), [5, 2, 0, 2, 1])

    def test_not_safe(self):
        self.check(is_state(6, 3), is_state(6, 4))

    def test_many_first_states(self):
        self.check([5, 7, 2, 0, 2, 3, 4, 2, 5], [5, 2, 0, 5, 2, 1, 2, 2])


class Still(list):
    """A list that can't be changed, not for a while either."""

    def refuse(self, *told):
        raise AssertionError("the list is changed")

    append = clear = extend = insert = pop = remove = reverse = sort = refuse
    __setitem__ = __delitem__ = __iadd__ = __imul__ = refuse


class NothingElse(unittest.TestCase):
    def test_the_list_handed_in_is_not_changed(self):
        line = long_line()
        copy = list(line)
        answers(line)
        self.assertEqual(line, copy)
        self.assertEqual(answers(Still(line)), answers(line))
        self.assertEqual(len(split(answers(line))), 40)

    def test_nothing_is_kept(self):
        line = long_line()
        told = answers(line)
        self.assertEqual(answers(line), told)
        self.assertEqual(answers([4, 5, 6]), [2, 1, 0, 1, 0, 2, 1, 0])
        self.assertEqual(answers([7, 2, 8, 9]), [4, 1, 0, 1, 0, 2, 1, 0, 2, 1, 0])
        self.assertEqual(answers(line), told)

    def test_what_is_given_back_is_new_each_time(self):
        line = [4]
        told = answers(line)
        told.append(7)
        self.assertEqual(answers(line), [2, 1, 0])
        self.assertEqual(line, [4])

    def test_what_is_nested_is_gone_through_by_loops(self):
        line = long_line()
        told = answers(line)
        limit = sys.getrecursionlimit()
        try:
            # Less than a condition may be nested, or a way or row may be long.
            sys.setrecursionlimit(len(inspect.stack()) + 25)
            again = answers(line)
        finally:
            sys.setrecursionlimit(limit)
        self.assertEqual(again, told)

    def test_nothing_is_printed(self):
        printed = io.StringIO()
        with redirect_stdout(printed):
            answers(long_line())
        self.assertEqual(printed.getvalue(), "")


if __name__ == "__main__":
    unittest.main()
