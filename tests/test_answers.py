"""Calls handed in as one list, answers given back as one list."""

import unittest

from cubematch.match import answer_to, answers
from helpers import HIGHEST, LOWEST, state_at_turn

BEGIN, OPEN, THROW, DOUBLE, TAKE, DROP = 1, 2, 3, 4, 5, 6
STEP, GIVE, NOW, BOARD, STEPS, MAY = 7, 8, 9, 10, 11, 12
SIDE = [0, 0, 0, 0, 0, 0, 5, 0, 3, 0, 0, 0, 0, 5, 0, 0, 0, 0, 0, 0, 0, 0, 0, 0, 2, 0]

# A match's first turn: player 0 opens by 3 and 1, then it's player 1's turn.
FIRST_TURN = [OPEN, 3, 1, STEP, 8, 3, STEP, 6, 1]
FIRST_TURN_TOLD = [4, 0, 0, 3, 2, 4, 0, 0, 3, 1, 4, 1, 1, 1, 0]


class UnchangeableList(list):
    """A list that can't be changed, not for a while either."""

    def refuse(self, *values):
        raise AssertionError("what was handed in was to be changed")

    append = extend = insert = pop = remove = clear = sort = reverse = refuse
    __setitem__ = __delitem__ = __iadd__ = __imul__ = refuse


class AnswersTest(unittest.TestCase):
    def expect(self, calls, told):
        handed_in = UnchangeableList(calls)
        given = answers(handed_in)
        self.assertEqual(given, told)
        self.assertEqual(handed_in, calls)
        self.assertEqual({kind.__name__ for kind in map(type, given)}, {"int"})
        self.assertIs(type(given), list)

    def test_begin(self):
        self.expect([BEGIN, 1], [1, 0])
        self.expect([BEGIN, 25], [1, 0])
        self.expect([BEGIN, 0], [1, -1])
        self.expect([BEGIN, 26], [1, -1])
        self.expect([BEGIN, LOWEST, BEGIN, HIGHEST], [1, -1, 1, -1])

    def test_open_tells_who_plays_and_how_it_stands(self):
        self.expect([BEGIN, 5, OPEN, 6, 1], [1, 0, 4, 0, 0, 3, 2])
        self.expect([BEGIN, 5, OPEN, 2, 4], [1, 0, 4, 1, 1, 3, 2])

    def test_alike_dice_then_another_opening(self):
        self.expect([BEGIN, 1, OPEN, 4, 4, OPEN, 4, 5], [1, 0, 1, -4, 4, 1, 1, 3, 2])

    def test_calls_without_a_match(self):
        self.expect([OPEN, 3, 1, THROW, 3, 1, DOUBLE, TAKE, DROP], [1, -2] * 5)
        self.expect([BEGIN, 0, OPEN, 3, 3, TAKE], [1, -1, 1, -2, 1, -2])

    def test_wrong_numbers_without_a_match(self):
        self.expect([OPEN, 0, 1, OPEN, 1, 7, THROW, LOWEST, 1, THROW, 1, HIGHEST], [1, -1] * 4)

    def test_calls_in_the_opening(self):
        self.expect([BEGIN, 5, THROW, 3, 1, DOUBLE, TAKE, DROP, OPEN, 3, 1],
                    [1, 0] + [1, -3] * 4 + [4, 0, 0, 3, 2])

    def test_calls_while_steps_are_to_be_made(self):
        self.expect([BEGIN, 1, OPEN, 1, 3, OPEN, 1, 3, OPEN, 2, 2, THROW, 3, 1, DOUBLE, TAKE, DROP],
                    [1, 0, 4, 1, 1, 3, 2] + [1, -3] * 6)

    def test_wrong_numbers_ahead_of_the_phase(self):
        self.expect([BEGIN, 5, OPEN, 1, 3, OPEN, 0, 0, THROW, 7, 1, THROW, 1, -1],
                    [1, 0, 4, 1, 1, 3, 2] + [1, -1] * 3)

    def test_a_refused_begin_leaves_the_match(self):
        self.expect([BEGIN, 5, OPEN, 1, 3, BEGIN, 26, OPEN, 1, 3, BEGIN, 5, OPEN, 3, 1],
                    [1, 0, 4, 1, 1, 3, 2, 1, -1, 1, -3, 1, 0, 4, 0, 0, 3, 2])

    def test_the_calls_that_ask_without_a_match(self):
        self.expect([NOW, BOARD, STEPS, MAY, 24, 1, STEP, 24, 1, GIVE, 1],
                    [4, 0, 0, 0, 0] + [1, -2] * 5)

    def test_wrong_numbers_of_step_give_and_may_ahead_of_all(self):
        wrong = [STEP, 0, 1, STEP, 26, 6, STEP, 1, 0, STEP, 25, 7, GIVE, 0, GIVE, 4,
                 MAY, 0, 1, MAY, 26, 6, MAY, 1, 0, MAY, 25, 7, STEP, LOWEST, HIGHEST, GIVE, LOWEST]
        self.expect(wrong, [1, -1] * 12)
        self.expect([BEGIN, 5] + wrong, [1, 0] + [1, -1] * 12)
        self.expect([BEGIN, 5] + FIRST_TURN + wrong, [1, 0] + FIRST_TURN_TOLD + [1, -1] * 12)

    def test_a_turn_with_all_that_asks(self):
        self.expect([BEGIN, 5, OPEN, 3, 1, NOW, BOARD, STEPS, MAY, 24, 6, MAY, 24, 5],
                    [1, 0, 4, 0, 0, 3, 2, 12, 1, 5, 0, 0, 0, 3, 2, 1, -1, 1, 3, 1]
                    + [54, 167, 167] + SIDE + SIDE
                    + [15, 7, 24, 3, 13, 3, 8, 3, 6, 3, 24, 1, 8, 1, 6, 1, 1, 1, 1, 0])

    def test_the_cube_up_to_1024_and_a_match_won_by_far(self):
        # Each turn a double that is taken, then a checker from 13 goes on by 2 and 1.
        calls, told = [BEGIN, 25] + FIRST_TURN, [1, 0] + FIRST_TURN_TOLD
        calls += [GIVE, 1] + FIRST_TURN
        told += [3, 1, 1, 0] + FIRST_TURN_TOLD
        player, cube, places = 1, 1, [[13, 13, 13, 13, 13], [13, 13, 13, 13, 13]]
        while cube < 1024:
            cube = cube * 2
            calls += [DOUBLE, DOUBLE, TAKE, DOUBLE]
            told += [4, cube, player, 2, 0, 1, -3, 4, cube, player, 1, 0, 1, -4]
            place = places[player].pop()
            calls += [THROW, 2, 1, STEP, place, 2, STEP, place - 2, 1]
            told += [4, 2, player, 3, 2, 4, 0, player, 3, 1, 4, 1, 1 - player, 1, 0]
            player = 1 - player
        calls += [DOUBLE, NOW, GIVE, 3, NOW, GIVE, 1, DOUBLE, BOARD, STEPS, MAY, 1, 1, THROW, 2, 1]
        told += [1, -4, 10, 1, 25, 1, 0, 1, 1, 0, 1024, 1, 1]
        told += [3, 3072, 3073, 0, 4, 0, 25, 3073, 0] + [1, -2] * 6
        calls += [BEGIN, 1, NOW]
        told += [1, 0, 10, 1, 1, 0, 0, 0, 0, 0, 1, -1, 0]
        self.expect(calls, told)

    def test_the_game_without_doubles_and_those_behind_it(self):
        self.expect([BEGIN, 3] + FIRST_TURN + [GIVE, 2, NOW] + FIRST_TURN + [DOUBLE, THROW, 5, 2],
                    [1, 0] + FIRST_TURN_TOLD
                    + [3, 2, 2, 0, 10, 1, 3, 2, 0, 0, 0, 0, 1, -1, 0]
                    + FIRST_TURN_TOLD + [1, -4, 4, 2, 1, 3, 2])
        line = [BEGIN, 3] + FIRST_TURN + [GIVE, 2, OPEN, 1, 3, STEP, 8, 3, STEP, 6, 1, GIVE, 1, NOW]
        due = [1, 0] + FIRST_TURN_TOLD + [3, 2, 2, 0, 4, 1, 1, 3, 2, 4, 0, 1, 3, 1, 4, 1, 0, 1, 0,
                                          3, 1, 2, 1, 10, 1, 3, 2, 1, 0, 0, 0, 1, -1, 1]
        self.expect(line, due)
        self.expect(line + FIRST_TURN + [DOUBLE, DROP],
                    due + FIRST_TURN_TOLD + [4, 2, 1, 2, 0, 3, 1, 2, 2])

    def test_a_match_to_1(self):
        self.expect([BEGIN, 1, NOW] + FIRST_TURN + [DOUBLE, GIVE, 2, NOW, OPEN, 3, 1, NOW],
                    [1, 0, 10, 1, 1, 0, 0, 0, 0, 0, 1, -1, 0] + FIRST_TURN_TOLD
                    + [1, -4, 3, 2, 2, 0, 4, 0, 1, 2, 0, 1, -2, 4, 0, 1, 2, 0])

    def test_begin_in_the_midst_of_a_match(self):
        self.expect([BEGIN, 9] + FIRST_TURN + [GIVE, 1, OPEN, 3, 1, STEP, 8, 3, BEGIN, 26,
                                               STEP, 8, 3, BEGIN, 2, NOW, BOARD, STEP, 6, 1],
                    [1, 0] + FIRST_TURN_TOLD + [3, 1, 1, 0, 4, 0, 0, 3, 2, 4, 0, 0, 3, 1, 1, -1,
                                                1, -4, 1, 0, 10, 1, 2, 0, 0, 0, 0, 0, 1, -1, 1]
                    + [54, 167, 167] + SIDE + SIDE + [1, -3])

    def test_250_calls(self):
        self.expect([BEGIN, 25] + [OPEN, 1, 2] * 249,
                    [1, 0, 4, 1, 1, 3, 2] + [1, -3] * 248)
        self.expect([BEGIN, 5, OPEN, 6, 5] * 125, [1, 0, 4, 0, 0, 3, 2] * 125)
        self.expect([NOW] * 250, [4, 0, 0, 0, 0] * 250)
        self.expect([BEGIN, 5] + [BOARD] * 249, [1, 0] + ([54, 167, 167] + SIDE + SIDE) * 249)
        self.expect([BEGIN, 25] + (FIRST_TURN + [DOUBLE, DROP]) * 20 + [STEP, 24, 1] * 149,
                    [1, 0] + self.dropped(20) + [1, -3] * 149)

    def dropped(self, games):
        """What the first turn of each game, a double and a drop tell; player 1 wins them all."""
        told = []
        for won in range(1, games + 1):
            told += FIRST_TURN_TOLD + [4, 2, 1, 2, 0, 3, 1, 0, won]
        return told

    def test_nothing_is_kept_from_one_time_to_the_next(self):
        first = answers([BEGIN, 5, OPEN, 6, 1])
        self.assertEqual(answers([OPEN, 6, 1, DOUBLE]), [1, -2, 1, -2])
        self.assertEqual(answers([NOW, BOARD]), [4, 0, 0, 0, 0, 1, -2])
        again = answers([BEGIN, 5, OPEN, 6, 1])
        self.assertEqual(again, first)
        first.clear()
        self.assertEqual(answers([BEGIN, 5, OPEN, 6, 1]), again)


class AnswerToTest(unittest.TestCase):
    def test_each_call_by_its_number_in_a_turn(self):
        state = state_at_turn(0)
        self.assertEqual(answer_to(state, DOUBLE, []), [2, 0, 2, 0])
        self.assertEqual(answer_to(state, TAKE, []), [2, 0, 1, 0])
        self.assertEqual(answer_to(state, THROW, [4, 4]), [4, 0, 3, 4])
        state = state_at_turn(1)
        self.assertEqual(answer_to(state, DOUBLE, []), [2, 1, 2, 0])
        self.assertEqual(answer_to(state, DROP, []), [1, 0, 1])
        self.assertEqual(answer_to(state, OPEN, [3, 1]), [0, 0, 3, 2])
        self.assertEqual(answer_to(state, STEP, [24, 3]), [0, 0, 3, 1])
        self.assertEqual(answer_to(state, STEPS, []), [4, 24, 1, 21, 1, 8, 1, 6, 1])
        self.assertEqual(answer_to(state, MAY, [24, 5]), [0])
        self.assertEqual(answer_to(state, MAY, [21, 5]), [1])
        self.assertEqual(answer_to(state, NOW, []), [1, 5, 0, 1, 0, 3, 1, 1, -1, 1, 1])
        self.assertEqual(answer_to(state, BOARD, [])[:2], [164, 167])
        self.assertEqual(answer_to(state, STEP, [21, 1]), [1, 1, 1, 0])
        self.assertEqual(answer_to(state, GIVE, [2]), [2, 2, 1])
        self.assertEqual(answer_to(state, BEGIN, [2]), [0])


if __name__ == "__main__":
    unittest.main()
