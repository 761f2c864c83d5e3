"""The calls step, give, now, board, steps and may, each by itself."""

import unittest

from cubematch.board import board_behind
from cubematch.calls import (call_begin, call_board, call_double, call_drop, call_give, call_may,
                             call_now, call_open, call_step, call_steps, call_take, call_throw,
                             how_it_stands)
from cubematch.state import OPENING, STEPS, TURN, State, begin_turn
from helpers import (HIGHEST, LOWEST, NOT_A_DIE, expect_no_match, expect_other_phase,
                     expect_refusal, pairs_closed, picture, side_of, state_at_opening,
                     state_at_turn, state_doubled, state_in_steps, state_on_board, state_over,
                     state_thrown, states_in_other_phases)

NOT_A_PLACE = (LOWEST, -25, -1, 0, 26, 27, HIGHEST)


def all_states():
    """One without a match, one behind its end, and one in each phase."""
    return [State(), state_over()] + states_in_other_phases(None)


class StepTest(unittest.TestCase):
    def test_the_turn_goes_on_until_what_must_be_used_is_used(self):
        for player in (0, 1):
            state = state_thrown({24: 2}, {24: 2}, 6, 5, player)
            before = state.game.board
            self.assertEqual(call_step(state, 24, 5), [0, player, STEPS, 1])
            behind = board_behind(before, player, 24, 5)
            self.assertEqual(state.game.board, behind)
            self.assertEqual(state.game.dice, [6])
            self.assertEqual(call_step(state, 19, 6), [1, 1 - player, TURN, 0])
            self.assertEqual(state.game.board, board_behind(behind, player, 19, 6))
            self.assertEqual(state.game.dice, [])

    def test_four_alike_dice(self):
        state = state_thrown({24: 2}, {}, 3, 3)
        for left in (3, 2, 1):
            self.assertEqual(call_step(state, 24 - 3 * (3 - left), 3), [0, 0, STEPS, left])
        self.assertEqual(call_step(state, 24, 3), [1, 1, TURN, 0])

    def test_fewer_alike_dice_than_thrown(self):
        for most, closed in ((1, 9), (2, 7), (3, 5)):
            state = state_thrown({13: 1}, pairs_closed(closed), 2, 2)
            for used in range(1, most):
                place = 15 - 2 * used
                self.assertEqual(call_step(state, place, 2), [0, 0, STEPS, most - used])
            self.assertEqual(call_step(state, 15 - 2 * most, 2), [1, 1, TURN, 0])

    def test_a_checker_that_is_hit_goes_to_the_bar(self):
        for player in (0, 1):
            state = state_thrown({10: 1}, {18: 1, 24: 3}, 3, 1, player)
            call_step(state, 10, 3)
            side = state.game.board[1 - player]
            self.assertEqual((side[18], side[25], side[24]), (0, 1, 3))

    def test_from_the_bar(self):
        state = state_thrown({25: 2, 8: 3}, {}, 4, 2)
        expect_refusal(self, state, -4, call_step, 8, 4)
        self.assertEqual(call_step(state, 25, 4), [0, 0, STEPS, 1])
        expect_refusal(self, state, -4, call_step, 21, 2)
        self.assertEqual(call_step(state, 25, 2), [1, 1, TURN, 0])

    def test_a_die_that_is_not_there_or_is_used(self):
        state = state_thrown({24: 2}, {}, 6, 5)
        for die in (1, 2, 3, 4):
            expect_refusal(self, state, -4, call_step, 24, die)
        call_step(state, 24, 6)
        expect_refusal(self, state, -4, call_step, 24, 6)

    def test_a_place_without_ones_checkers(self):
        state = state_thrown({24: 2}, {13: 4}, 6, 5)
        for place in (25, 23, 13, 12, 1):
            expect_refusal(self, state, -4, call_step, place, 6)

    def test_a_closed_point(self):
        state = state_thrown({24: 2}, pairs_closed(18), 6, 5)
        expect_refusal(self, state, -4, call_step, 24, 6)
        self.assertEqual(call_step(state, 24, 5), [0, 0, STEPS, 1])

    def test_the_greater_of_two_dice_of_which_one_can_be_used(self):
        state = state_thrown({10: 1}, pairs_closed(3), 6, 1)
        self.assertEqual(how_it_stands(state), [0, STEPS, 1])
        expect_refusal(self, state, -4, call_step, 10, 1)
        self.assertEqual(call_step(state, 10, 6), [1, 1, TURN, 0])

    def test_the_less_one_if_the_greater_cannot_be_used(self):
        state = state_thrown({10: 1}, pairs_closed(4, 3), 6, 1)
        self.assertEqual(call_step(state, 10, 1), [1, 1, TURN, 0])

    def test_too_few_dice_could_be_used_behind_it(self):
        state = state_thrown({13: 1, 9: 1}, pairs_closed(7, 3, 2), 6, 1)
        self.assertEqual(call_may(state, 9, 1), [1])
        expect_refusal(self, state, -4, call_step, 9, 1)
        self.assertEqual(call_step(state, 13, 1), [0, 0, STEPS, 1])
        self.assertEqual(call_step(state, 12, 6), [1, 1, TURN, 0])

    def test_going_off_with_a_greater_die(self):
        state = state_thrown({4: 2, 2: 1}, {}, 6, 3)
        expect_refusal(self, state, -4, call_step, 2, 3)
        self.assertEqual(call_step(state, 4, 6), [0, 0, STEPS, 1])
        expect_refusal(self, state, -4, call_step, 2, 3)
        self.assertEqual(call_step(state, 4, 3), [1, 1, TURN, 0])
        self.assertEqual(state.game.board[0], side_of({2: 1, 1: 1}))

    def test_what_is_no_place_or_no_die(self):
        for state in all_states():
            for place in NOT_A_PLACE:
                expect_refusal(self, state, -1, call_step, place, 3)
                expect_refusal(self, state, -1, call_step, place, 0)
            for die in NOT_A_DIE:
                expect_refusal(self, state, -1, call_step, 13, die)

    def test_places_and_dice_at_the_edge_are_right(self):
        state = state_thrown({25: 1, 1: 1}, {}, 6, 1)
        self.assertEqual(call_step(state, 25, 6), [0, 0, STEPS, 1])
        expect_refusal(self, state, -4, call_step, 1, 1)
        self.assertEqual(call_step(state, 19, 1), [1, 1, TURN, 0])

    def test_no_match_and_other_phases(self):
        for place, die in ((24, 3), (24, 6), (7, 2)):
            expect_no_match(self, call_step, place, die)
            expect_other_phase(self, STEPS, call_step, place, die)

    def test_a_step_leaves_cube_and_points(self):
        state = state_thrown({24: 2}, {}, 6, 5)
        state.game.cube, state.game.holder = 4, 1
        call_step(state, 24, 6)
        call_step(state, 24, 5)
        self.assertEqual((state.game.cube, state.game.holder, state.points), (4, 1, [0, 0]))


class WinTest(unittest.TestCase):
    def win(self, loser_places, cube, player=0, goal=25):
        """The state ahead of the player's last step, by 2 from 1."""
        state = state_on_board({1: 2}, loser_places, player, goal)
        state.game.cube, state.game.holder = cube, player
        call_throw(state, 6, 2)
        self.assertEqual(call_step(state, 1, 6), [0, player, STEPS, 1])
        return state

    def test_once_twice_and_three_times_the_cube(self):
        for times, loser_places in ((1, {6: 14}), (1, {25: 14}), (2, {6: 15}), (2, {18: 15}),
                                    (3, {6: 14, 19: 1}), (3, {6: 14, 25: 1}), (3, {24: 15})):
            for cube in (1, 2, 4, 8):
                for player in (0, 1):
                    state = self.win(loser_places, cube, player)
                    won = times * cube
                    points = [won, 0] if player == 0 else [0, won]
                    self.assertEqual(call_step(state, 1, 2), [2, won] + points)

    def test_the_next_game_begins(self):
        state = self.win({6: 14}, 4, 1)
        call_step(state, 1, 2)
        self.assertEqual(picture(state), picture(state_at_opening(25, (0, 4))))
        self.assertEqual(call_open(state, 5, 2), [0, 0, STEPS, 2])

    def test_the_match_is_won_with_points_over(self):
        for cube, loser_places, points in ((4, {6: 14}, 4), (2, {6: 15}, 4), (4, {25: 15}, 12),
                                           (1024, {25: 15}, 3072)):
            state = self.win(loser_places, cube, 0, 4)
            self.assertEqual(call_step(state, 1, 2), [2, points, points, 0])
            self.assertEqual(how_it_stands(state), [])
            self.assertEqual(call_now(state), [0, 4, points, 0])
            expect_refusal(self, state, -2, call_step, 1, 2)

    def test_one_point_short_goes_on(self):
        state = self.win({25: 15}, 1, 0, 4)
        self.assertEqual(call_step(state, 1, 2), [2, 3, 3, 0])
        self.assertEqual(call_now(state), [1, 4, 3, 0, 0, 0, 0, 1, -1, 0])

    def test_a_game_is_won_by_the_dice_that_can_be_used_alone(self):
        state = state_thrown({1: 1}, {6: 15}, 4, 4)
        self.assertEqual(how_it_stands(state), [0, STEPS, 1])
        self.assertEqual(call_step(state, 1, 4), [2, 2, 2, 0])

    def test_the_last_checker_goes_off_by_the_greater_die(self):
        state = state_thrown({2: 1}, {6: 15}, 5, 3)
        expect_refusal(self, state, -4, call_step, 2, 3)
        self.assertEqual(call_step(state, 2, 5), [2, 2, 2, 0])

    def test_a_game_is_not_won_while_what_must_be_used_is_not(self):
        state = state_thrown({6: 1}, {6: 15}, 6, 1)
        self.assertEqual(how_it_stands(state), [0, STEPS, 2])
        expect_refusal(self, state, -4, call_step, 6, 6)
        self.assertEqual(call_step(state, 6, 1), [0, 0, STEPS, 1])
        self.assertEqual(call_step(state, 5, 6), [2, 2, 2, 0])

    def test_what_is_won_counts_with_what_was(self):
        state = self.win({6: 15}, 2)
        state.points = [3, 7]
        self.assertEqual(call_step(state, 1, 2), [2, 4, 7, 7])


class GiveTest(unittest.TestCase):
    def test_the_other_has_won_so_many_times_the_cube(self):
        for times in (1, 2, 3):
            for cube in (1, 2, 8):
                state = state_at_turn(0, 25, (1, 0))
                state.game.cube = cube
                self.assertEqual(call_give(state, times), [times * cube, 1, times * cube])
                state = state_at_turn(1, 25, (0, 1))
                state.game.cube = cube
                self.assertEqual(call_give(state, times), [times * cube, times * cube, 1])

    def test_the_next_game_begins(self):
        state = state_at_turn(1, 7)
        call_give(state, 2)
        self.assertEqual(picture(state), picture(state_at_opening(7, (2, 0))))

    def test_behind_a_double_that_was_taken(self):
        state = state_at_turn(0, 7)
        call_double(state)
        call_take(state)
        self.assertEqual(call_give(state, 3), [6, 0, 6])

    def test_whoever_does_not_hold_the_cube_may_give(self):
        state = state_at_turn(0, 7)
        state.game.cube, state.game.holder = 2, 1
        self.assertEqual(call_give(state, 1), [2, 0, 2])

    def test_in_the_game_without_doubles(self):
        state = state_at_turn(1, 1)
        self.assertEqual(call_give(state, 3), [3, 3, 0])
        self.assertEqual(call_now(state), [0, 1, 3, 0])

    def test_the_match_is_won_by_it(self):
        state = state_at_turn(0, 5, (4, 3))
        state.game.cube = 2
        self.assertEqual(call_give(state, 2), [4, 4, 7])
        self.assertEqual(how_it_stands(state), [])
        expect_refusal(self, state, -2, call_give, 1)

    def test_what_is_not_1_to_3(self):
        for times in (LOWEST, -3, -2, -1, 0, 4, 5, HIGHEST):
            for state in all_states():
                expect_refusal(self, state, -1, call_give, times)

    def test_no_match_and_other_phases(self):
        for times in (1, 2, 3):
            expect_no_match(self, call_give, times)
            expect_other_phase(self, TURN, call_give, times)


class NowTest(unittest.TestCase):
    def test_without_a_match_all_is_0(self):
        self.assertEqual(call_now(State()), [0, 0, 0, 0])

    def test_when_the_match_is_over(self):
        self.assertEqual(call_now(state_over(5)), [0, 5, 5, 0])

    def test_in_every_phase(self):
        self.assertEqual(call_now(state_at_opening(7, (2, 3))), [1, 7, 2, 3, 0, 0, 0, 1, -1, 1])
        self.assertEqual(call_now(state_at_turn(1, 7, (2, 3))), [1, 7, 2, 3, 1, 1, 0, 1, -1, 1])
        self.assertEqual(call_now(state_doubled(1, 7, (2, 3))), [1, 7, 2, 3, 1, 2, 0, 1, -1, 1])
        self.assertEqual(call_now(state_in_steps(7, (2, 3))),
                         [1, 7, 2, 3, 0, 3, 2, 1, -1, 1, 3, 1])

    def test_the_cube_and_its_holder(self):
        state = state_at_turn(1, 9)
        call_double(state)
        self.assertEqual(call_now(state), [1, 9, 0, 0, 1, 2, 0, 1, -1, 1])
        call_take(state)
        self.assertEqual(call_now(state), [1, 9, 0, 0, 1, 1, 0, 2, 0, 1])
        begin_turn(state.game, 0)
        call_double(state)
        call_take(state)
        self.assertEqual(call_now(state), [1, 9, 0, 0, 0, 1, 0, 4, 1, 1])

    def test_doubles_are_off(self):
        self.assertEqual(call_now(state_at_opening(1)), [1, 1, 0, 0, 0, 0, 0, 1, -1, 0])

    def test_doubles_are_let_though_one_may_not_double_now(self):
        state = state_at_turn(0)
        state.game.cube, state.game.holder = 1024, 1
        self.assertEqual(call_now(state), [1, 5, 0, 0, 0, 1, 0, 1024, 1, 1])

    def test_the_dice_that_are_not_used_yet(self):
        state = state_thrown({24: 2}, {}, 2, 5)
        self.assertEqual(call_now(state)[10:], [5, 2])
        call_step(state, 24, 5)
        self.assertEqual(call_now(state)[4:], [0, 3, 1, 1, -1, 1, 2])
        call_step(state, 24, 2)
        self.assertEqual(call_now(state)[4:], [1, 1, 0, 1, -1, 1])

    def test_the_greater_die_used_last(self):
        state = state_thrown({24: 2}, {}, 5, 2)
        call_step(state, 24, 2)
        self.assertEqual(call_now(state)[10:], [5])

    def test_four_alike_dice_also_if_fewer_can_be_used(self):
        state = state_thrown({13: 1}, pairs_closed(7), 2, 2)
        self.assertEqual(call_now(state)[4:], [0, 3, 2, 1, -1, 1, 2, 2, 2, 2])
        call_step(state, 13, 2)
        self.assertEqual(call_now(state)[4:], [0, 3, 1, 1, -1, 1, 2, 2, 2])
        call_step(state, 11, 2)
        self.assertEqual(call_now(state)[4:], [1, 1, 0, 1, -1, 1])

    def test_no_dice_behind_a_throw_of_which_none_can_be_used(self):
        state = state_on_board({25: 1}, pairs_closed(20, 22))
        call_throw(state, 5, 3)
        self.assertEqual(call_now(state)[4:], [1, 1, 0, 1, -1, 1])

    def test_it_changes_nothing(self):
        for state in all_states():
            before = picture(state)
            call_now(state).append(9)
            self.assertEqual(picture(state), before)


class BoardTest(unittest.TestCase):
    def test_the_beginning(self):
        side = side_of({24: 2, 13: 5, 8: 3, 6: 5})
        for state in states_in_other_phases(None):
            before = picture(state)
            self.assertEqual(call_board(state), [167, 167] + side + side)
            self.assertEqual(picture(state), before)

    def test_pips_and_places_of_each(self):
        state = state_on_board({25: 2, 3: 1}, {24: 1, 1: 4})
        mine, others = side_of({25: 2, 3: 1}), side_of({24: 1, 1: 4})
        self.assertEqual(call_board(state), [53, 28] + mine + others)
        self.assertEqual((mine[0], others[0]), (12, 10))

    def test_behind_a_step(self):
        state = state_thrown({10: 1}, {18: 1}, 3, 1)
        call_step(state, 10, 3)
        self.assertEqual(call_board(state), [7, 25] + side_of({7: 1}) + side_of({25: 1}))

    def test_what_is_told_is_no_part_of_what_is_kept(self):
        state = state_at_opening()
        told = call_board(state)
        told[2 + 24] = 9
        self.assertEqual(state.game.board[0][24], 2)

    def test_no_match(self):
        expect_no_match(self, call_board)


class StepsTest(unittest.TestCase):
    def test_how_many_then_each_place_and_die(self):
        self.assertEqual(call_steps(state_in_steps()),
                         [7, 24, 3, 13, 3, 8, 3, 6, 3, 24, 1, 8, 1, 6, 1])

    def test_of_either_player(self):
        for player in (0, 1):
            state = state_thrown({24: 1, 13: 1}, {}, 2, 6, player)
            self.assertEqual(call_steps(state), [4, 24, 6, 13, 6, 24, 2, 13, 2])

    def test_alike_dice_once(self):
        state = state_thrown({24: 1, 13: 1}, {}, 2, 2)
        self.assertEqual(call_steps(state), [2, 24, 2, 13, 2])

    def test_the_bar_stands_first_and_alone(self):
        state = state_thrown({25: 1, 24: 1}, {}, 6, 2)
        self.assertEqual(call_steps(state), [2, 25, 6, 25, 2])

    def test_the_greater_die_alone(self):
        state = state_thrown({10: 1}, pairs_closed(3), 6, 1)
        self.assertEqual(call_steps(state), [1, 10, 6])

    def test_none_behind_which_too_few_could_be_used(self):
        state = state_thrown({13: 1, 9: 1}, pairs_closed(7, 3, 2), 6, 1)
        self.assertEqual(call_steps(state), [1, 13, 1])

    def test_down_to_the_first_point(self):
        state = state_thrown({2: 1, 1: 1}, {6: 15}, 2, 1)
        self.assertEqual(call_steps(state), [3, 2, 2, 2, 1, 1, 1])

    def test_each_told_one_may_be_made_and_no_other(self):
        told = call_steps(state_thrown({25: 1, 6: 3, 3: 1}, {20: 2}, 5, 4))
        found = list(zip(told[1::2], told[2::2]))
        self.assertEqual(told[0], len(found))
        for place in range(1, 26):
            for die in range(1, 7):
                state = state_thrown({25: 1, 6: 3, 3: 1}, {20: 2}, 5, 4)
                made = call_step(state, place, die) != [-4]
                self.assertEqual(made, (place, die) in found)

    def test_it_changes_nothing(self):
        state = state_in_steps()
        before = picture(state)
        call_steps(state)
        self.assertEqual(picture(state), before)

    def test_no_match_and_other_phases(self):
        expect_no_match(self, call_steps)
        expect_other_phase(self, STEPS, call_steps)


class MayTest(unittest.TestCase):
    def test_whatever_the_dice(self):
        state = state_thrown({10: 1}, pairs_closed(4), 5, 3)
        told = [call_may(state, 10, die)[0] for die in range(1, 7)]
        self.assertEqual(told, [1, 1, 1, 1, 1, 0])
        self.assertEqual(call_may(state, 9, 5), [0])

    def test_also_what_may_not_be_made_now(self):
        state = state_thrown({10: 1}, pairs_closed(3), 6, 1)
        self.assertEqual(call_may(state, 10, 1), [1])

    def test_whoevers_turn_it_is_in_each_phase(self):
        mine, others = {20: 1}, {24: 1}
        for player in (0, 1):
            state = state_on_board(mine, others, player)
            self.assertEqual((call_may(state, 20, 1), call_may(state, 24, 1)), ([1], [0]))
            call_double(state)
            self.assertEqual((call_may(state, 20, 1), call_may(state, 24, 1)), ([1], [0]))
            call_take(state)
            call_throw(state, 6, 5)
            self.assertEqual((call_may(state, 20, 1), call_may(state, 24, 1)), ([1], [0]))
            call_step(state, 20, 6)
            call_step(state, 14, 5)
            self.assertEqual((call_may(state, 9, 1), call_may(state, 24, 1)), ([0], [1]))

    def test_in_an_opening_player_0(self):
        state = state_at_opening()
        state.game.board = [side_of({20: 1}), side_of({24: 1})]
        self.assertEqual((call_may(state, 20, 1), call_may(state, 24, 1)), ([1], [0]))
        # Also behind a game that player 1 has won.
        state = state_at_turn(1)
        call_double(state)
        call_drop(state)
        state.game.board = [side_of({20: 1}), side_of({24: 1})]
        self.assertEqual((call_may(state, 20, 1), call_may(state, 24, 1)), ([1], [0]))

    def test_from_the_bar_and_off(self):
        state = state_on_board({25: 1, 3: 1}, {})
        self.assertEqual((call_may(state, 25, 6), call_may(state, 3, 3)), ([1], [0]))
        state = state_on_board({3: 1, 1: 1}, {})
        told = [call_may(state, place, die)[0] for place, die in ((3, 3), (3, 6), (1, 1), (1, 2))]
        self.assertEqual(told, [1, 1, 1, 0])

    def test_what_is_no_place_or_no_die(self):
        for state in all_states():
            for place in NOT_A_PLACE:
                expect_refusal(self, state, -1, call_may, place, 3)
                expect_refusal(self, state, -1, call_may, place, 0)
            for die in NOT_A_DIE:
                expect_refusal(self, state, -1, call_may, 13, die)

    def test_it_changes_nothing(self):
        for state in states_in_other_phases(None):
            before = picture(state)
            self.assertEqual((call_may(state, 24, 3), call_may(state, 1, 1)), ([1], [0]))
            self.assertEqual(picture(state), before)

    def test_no_match(self):
        expect_no_match(self, call_may, 24, 3)
        expect_no_match(self, call_may, 25, 6)


class BeginInTheMidstTest(unittest.TestCase):
    def test_what_was_is_gone(self):
        state = state_thrown({24: 2}, {}, 6, 5)
        state.game.cube, state.game.holder = 4, 1
        call_step(state, 24, 6)
        call_begin(state, 3)
        self.assertEqual(picture(state), picture(state_at_opening(3)))


if __name__ == "__main__":
    unittest.main()
