"""Calls handed in as one list, answers given back as one list."""

import unittest

from cubematch.match import answer_to, answers
from helpers import HIGHEST, LOWEST, state_at_turn

BEGIN, OPEN, THROW, DOUBLE, TAKE, DROP = 1, 2, 3, 4, 5, 6


class UnchangeableList(list):
    """A list that can't be changed, not for a while either."""

    def refuse(self, *values):
        raise AssertionError("what was handed in was to be changed")

    append = extend = insert = pop = remove = clear = sort = reverse = refuse
    __setitem__ = __delitem__ = __iadd__ = __imul__ = refuse


class AnswersTest(unittest.TestCase):
    def expect(self, calls, told):
        handed_in = UnchangeableList(calls)
        given = answers(handed_in)
        self.assertEqual(given, told)
        self.assertEqual(handed_in, calls)
        self.assertEqual({kind.__name__ for kind in map(type, given)}, {"int"})
        self.assertIs(type(given), list)

    def test_begin(self):
        self.expect([BEGIN, 1], [1, 0])
        self.expect([BEGIN, 25], [1, 0])
        self.expect([BEGIN, 0], [1, -1])
        self.expect([BEGIN, 26], [1, -1])
        self.expect([BEGIN, LOWEST, BEGIN, HIGHEST], [1, -1, 1, -1])

    def test_open_tells_who_plays_and_how_it_stands(self):
        self.expect([BEGIN, 5, OPEN, 6, 1], [1, 0, 4, 0, 0, 3, 2])
        self.expect([BEGIN, 5, OPEN, 2, 4], [1, 0, 4, 1, 1, 3, 2])

    def test_alike_dice_then_another_opening(self):
        self.expect([BEGIN, 1, OPEN, 4, 4, OPEN, 4, 5], [1, 0, 1, -4, 4, 1, 1, 3, 2])

    def test_calls_without_a_match(self):
        self.expect([OPEN, 3, 1, THROW, 3, 1, DOUBLE, TAKE, DROP], [1, -2] * 5)
        self.expect([BEGIN, 0, OPEN, 3, 3, TAKE], [1, -1, 1, -2, 1, -2])

    def test_wrong_numbers_without_a_match(self):
        self.expect([OPEN, 0, 1, OPEN, 1, 7, THROW, LOWEST, 1, THROW, 1, HIGHEST], [1, -1] * 4)

    def test_calls_in_the_opening(self):
        self.expect([BEGIN, 5, THROW, 3, 1, DOUBLE, TAKE, DROP, OPEN, 3, 1],
                    [1, 0] + [1, -3] * 4 + [4, 0, 0, 3, 2])

    def test_calls_while_steps_are_to_be_made(self):
        self.expect([BEGIN, 1, OPEN, 1, 3, OPEN, 1, 3, OPEN, 2, 2, THROW, 3, 1, DOUBLE, TAKE, DROP],
                    [1, 0, 4, 1, 1, 3, 2] + [1, -3] * 6)

    def test_wrong_numbers_ahead_of_the_phase(self):
        self.expect([BEGIN, 5, OPEN, 1, 3, OPEN, 0, 0, THROW, 7, 1, THROW, 1, -1],
                    [1, 0, 4, 1, 1, 3, 2] + [1, -1] * 3)

    def test_a_refused_begin_leaves_the_match(self):
        self.expect([BEGIN, 5, OPEN, 1, 3, BEGIN, 26, OPEN, 1, 3, BEGIN, 5, OPEN, 3, 1],
                    [1, 0, 4, 1, 1, 3, 2, 1, -1, 1, -3, 1, 0, 4, 0, 0, 3, 2])

    def test_250_calls(self):
        self.expect([BEGIN, 25] + [OPEN, 1, 2] * 249,
                    [1, 0, 4, 1, 1, 3, 2] + [1, -3] * 248)
        self.expect([BEGIN, 5, OPEN, 6, 5] * 125, [1, 0, 4, 0, 0, 3, 2] * 125)

    def test_nothing_is_kept_from_one_time_to_the_next(self):
        first = answers([BEGIN, 5, OPEN, 6, 1])
        self.assertEqual(answers([OPEN, 6, 1, DOUBLE]), [1, -2, 1, -2])
        again = answers([BEGIN, 5, OPEN, 6, 1])
        self.assertEqual(again, first)
        first.clear()
        self.assertEqual(answers([BEGIN, 5, OPEN, 6, 1]), again)


class AnswerToTest(unittest.TestCase):
    def test_each_call_by_its_number_in_a_turn(self):
        state = state_at_turn(0)
        self.assertEqual(answer_to(state, DOUBLE, []), [2, 0, 2, 0])
        self.assertEqual(answer_to(state, TAKE, []), [2, 0, 1, 0])
        self.assertEqual(answer_to(state, THROW, [4, 4]), [4, 0, 3, 4])
        state = state_at_turn(1)
        self.assertEqual(answer_to(state, DOUBLE, []), [2, 1, 2, 0])
        self.assertEqual(answer_to(state, DROP, []), [1, 0, 1])
        self.assertEqual(answer_to(state, OPEN, [3, 1]), [0, 0, 3, 2])
        self.assertEqual(answer_to(state, BEGIN, [2]), [0])


if __name__ == "__main__":
    unittest.main()
