"""The calls begin, open, throw, double, take and drop, each by itself, and the match they make."""

import unittest

from cubematch.calls import (call_begin, call_double, call_drop, call_open, call_take, call_throw,
                             how_it_stands)
from cubematch.state import (DOUBLED, OPENING, STEPS, TURN, State, begin_turn, end_game,
                             thrown_dice)
from helpers import (HIGHEST, LOWEST, NOT_A_DIE, board_of, expect_no_match, expect_other_phase,
                     expect_refusal, picture, state_at_opening, state_at_turn, state_doubled,
                     state_in_steps, state_over, states_in_other_phases)

# Player 0 is on the bar, and no die enters.
CLOSED_HOME = board_of({25: 1, 13: 5}, {1: 2, 2: 2, 3: 2, 4: 2, 5: 2, 6: 2})


class BeginTest(unittest.TestCase):
    def test_a_match_to_1_to_25(self):
        for goal in range(1, 26):
            state = State()
            self.assertEqual(call_begin(state, goal), [0])
            self.assertEqual(state.goal, goal)
            self.assertEqual(state.points, [0, 0])
            self.assertEqual(how_it_stands(state), [0, 0, 0])

    def test_other_numbers_are_refused_and_change_nothing(self):
        states = [State(), state_over()] + states_in_other_phases(None)
        for goal in (LOWEST, -25, -1, 0, 26, 27, HIGHEST):
            for state in states:
                expect_refusal(self, state, -1, call_begin, goal)

    def test_what_was_is_gone(self):
        new = State()
        call_begin(new, 7)
        played = state_doubled(1, 3, (2, 1))
        played.doubles_were_off = True
        played.game.cube, played.game.holder = 8, 1
        for state in [played, state_over()] + states_in_other_phases(None):
            self.assertEqual(call_begin(state, 7), [0])
            self.assertEqual(picture(state), picture(new))

    def test_the_game_begins_with_a_cube_of_1_that_nobody_holds(self):
        game = state_at_opening().game
        self.assertEqual((game.cube, game.holder, game.dice), (1, None, []))


class OpenTest(unittest.TestCase):
    def test_the_greater_die_plays_both(self):
        for x in range(1, 7):
            for y in range(1, 7):
                if x != y:
                    state = state_at_opening()
                    first = 0 if x > y else 1
                    self.assertEqual(call_open(state, x, y), [first, first, STEPS, 2])
                    self.assertEqual(state.game.dice, [max(x, y), min(x, y)])

    def test_alike_dice_count_nothing(self):
        for die in range(1, 7):
            state = state_at_opening()
            expect_refusal(self, state, -4, call_open, die, die)
            self.assertEqual(call_open(state, 1, 2), [1, 1, STEPS, 2])

    def test_what_is_no_die(self):
        for number in NOT_A_DIE:
            for state in [State(), state_over()] + states_in_other_phases(None):
                expect_refusal(self, state, -1, call_open, number, 3)
                expect_refusal(self, state, -1, call_open, 3, number)
                expect_refusal(self, state, -1, call_open, number, number)

    def test_no_match_and_other_phases_ahead_of_alike_dice(self):
        for dice in ((3, 1), (3, 3)):
            expect_no_match(self, call_open, *dice)
            expect_other_phase(self, OPENING, call_open, *dice)

    def test_none_used_is_the_others_turn(self):
        state = state_at_opening()
        state.game.board = CLOSED_HOME
        self.assertEqual(call_open(state, 5, 2), [0, 1, TURN, 0])


class ThrowTest(unittest.TestCase):
    def test_two_unlike_dice(self):
        for player in (0, 1):
            for dice in ((6, 1), (1, 6)):
                state = state_at_turn(player)
                self.assertEqual(call_throw(state, *dice), [2, player, STEPS, 2])
                self.assertEqual(state.game.dice, [6, 1])

    def test_alike_dice_count_four_times(self):
        for player in (0, 1):
            state = state_at_turn(player)
            self.assertEqual(call_throw(state, 2, 2), [4, player, STEPS, 4])
            self.assertEqual(state.game.dice, [2, 2, 2, 2])

    def test_alike_dice_that_not_every_checker_can_use(self):
        # From 24 the fives are closed, from 8 and 6 the sixes are of no use.
        self.assertEqual(call_throw(state_at_turn(), 5, 5), [4, 0, STEPS, 4])
        self.assertEqual(call_throw(state_at_turn(), 6, 6), [4, 0, STEPS, 4])

    def test_none_can_be_used(self):
        for dice in ((6, 5), (3, 3)):
            state = state_at_turn(0)
            state.game.board = CLOSED_HOME
            self.assertEqual(call_throw(state, *dice), [0, 1, TURN, 0])
            self.assertEqual(state.game.dice, [])
            # It's the other's turn at once: they throw next.
            self.assertEqual(call_throw(state, 6, 4), [2, 1, STEPS, 2])

    def test_the_second_player_can_use_none(self):
        state = state_at_turn(1)
        state.game.board = [CLOSED_HOME[1], CLOSED_HOME[0]]
        self.assertEqual(call_throw(state, 4, 2), [0, 0, TURN, 0])

    def test_fewer_than_thrown(self):
        state = state_at_turn(0)
        state.game.board = board_of({10: 1}, {22: 2})
        self.assertEqual(call_throw(state, 6, 1), [1, 0, STEPS, 1])
        self.assertEqual(state.game.dice, [6, 1])
        state = state_at_turn(0)
        state.game.board = board_of({13: 1}, {20: 2})
        self.assertEqual(call_throw(state, 2, 2), [3, 0, STEPS, 3])
        self.assertEqual(state.game.dice, [2, 2, 2, 2])

    def test_what_is_no_die(self):
        for number in NOT_A_DIE:
            for state in [State(), state_over()] + states_in_other_phases(None):
                expect_refusal(self, state, -1, call_throw, number, 3)
                expect_refusal(self, state, -1, call_throw, 3, number)
                expect_refusal(self, state, -1, call_throw, number, number)

    def test_no_match_and_other_phases(self):
        for dice in ((3, 1), (3, 3)):
            expect_no_match(self, call_throw, *dice)
            expect_other_phase(self, TURN, call_throw, *dice)

    def test_a_throw_changes_no_checkers_and_no_cube(self):
        state = state_at_turn(1)
        state.game.cube, state.game.holder = 4, 0
        before = picture(state)
        call_throw(state, 6, 4)
        game = state.game
        begin_turn(game, 1)
        self.assertEqual(picture(state), before)


class DoubleTest(unittest.TestCase):
    def test_while_nobody_holds_the_cube(self):
        for player in (0, 1):
            state = state_at_turn(player)
            self.assertEqual(call_double(state), [2, player, DOUBLED, 0])
            self.assertEqual((state.game.cube, state.game.holder), (1, None))

    def test_only_by_whoever_holds_the_cube(self):
        for player in (0, 1):
            state = state_at_turn(player)
            state.game.cube, state.game.holder = 4, player
            self.assertEqual(call_double(state), [8, player, DOUBLED, 0])
            state = state_at_turn(player)
            state.game.cube, state.game.holder = 4, 1 - player
            expect_refusal(self, state, -4, call_double)

    def test_up_to_a_cube_of_1024(self):
        state = state_at_turn(0)
        state.game.cube, state.game.holder = 512, 0
        self.assertEqual(call_double(state), [1024, 0, DOUBLED, 0])
        for holder in (0, 1):
            state = state_at_turn(0)
            state.game.cube, state.game.holder = 1024, holder
            expect_refusal(self, state, -4, call_double)

    def test_not_in_a_game_without_doubles(self):
        state = state_at_turn(0, 1)
        expect_refusal(self, state, -4, call_double)

    def test_no_match_and_other_phases_ahead_of_what_may_not_be(self):
        expect_no_match(self, call_double)
        expect_other_phase(self, TURN, call_double)
        for state in states_in_other_phases(TURN):
            state.game.cube = 1024
            expect_refusal(self, state, -3, call_double)


class TakeTest(unittest.TestCase):
    def test_the_cube_is_twice_as_much_and_theirs(self):
        for player in (0, 1):
            state = state_doubled(player)
            self.assertEqual(call_take(state), [2, player, TURN, 0])
            self.assertEqual((state.game.cube, state.game.holder), (2, 1 - player))
            self.assertEqual(state.points, [0, 0])

    def test_whoever_doubled_throws_but_does_not_double_again(self):
        state = state_at_turn(1)
        self.assertEqual(call_double(state), [2, 1, DOUBLED, 0])
        self.assertEqual(call_take(state), [2, 1, TURN, 0])
        expect_refusal(self, state, -4, call_double)
        self.assertEqual(call_throw(state, 6, 1), [2, 1, STEPS, 2])

    def test_the_cube_goes_to_and_fro_up_to_1024(self):
        state = state_at_turn(0)
        cube, player = 1, 0
        while cube < 1024:
            cube = cube * 2
            self.assertEqual(call_double(state), [cube, player, DOUBLED, 0])
            self.assertEqual(call_take(state), [cube, player, TURN, 0])
            player = 1 - player
            begin_turn(state.game, player)
        expect_refusal(self, state, -4, call_double)

    def test_no_match_and_other_phases(self):
        expect_no_match(self, call_take)
        expect_other_phase(self, DOUBLED, call_take)


class DropTest(unittest.TestCase):
    def test_the_other_has_won_what_the_cube_was(self):
        for player, points in ((0, [1, 0]), (1, [0, 1])):
            state = state_doubled(player)
            self.assertEqual(call_drop(state), [1] + points)

    def test_a_greater_cube(self):
        state = state_doubled(1, 25, (3, 2))
        state.game.cube, state.game.holder = 4, 1
        self.assertEqual(call_drop(state), [4, 3, 6])

    def test_the_next_game_begins(self):
        state = state_doubled(1, 25)
        state.game.cube, state.game.holder = 4, 1
        state.game.board = CLOSED_HOME
        call_drop(state)
        new = state_at_opening(25, (0, 4))
        self.assertEqual(picture(state), picture(new))
        self.assertEqual(how_it_stands(state), [0, OPENING, 0])
        self.assertEqual(call_open(state, 2, 5), [1, 1, STEPS, 2])

    def test_the_match_is_won_by_a_drop(self):
        for cube, points in ((2, [0, 5]), (4, [0, 7]), (512, [0, 515])):
            state = state_doubled(1, 5, (0, 3))
            state.game.cube, state.game.holder = cube, 1
            self.assertEqual(call_drop(state), [cube] + points)
            self.assertEqual(how_it_stands(state), [])
            for call, numbers in ((call_open, (3, 1)), (call_throw, (3, 1)), (call_double, ()),
                                  (call_take, ()), (call_drop, ())):
                expect_refusal(self, state, -2, call, *numbers)
            self.assertEqual(call_begin(state, 3), [0])
            self.assertEqual(state.points, [0, 0])

    def test_one_point_short_goes_on(self):
        state = state_doubled(0, 5, (3, 4))
        self.assertEqual(call_drop(state), [1, 4, 4])
        self.assertEqual(how_it_stands(state), [0, OPENING, 0])

    def test_the_points_told_are_no_part_of_what_is_kept(self):
        state = state_doubled(0)
        call_drop(state)[1] = 9
        self.assertEqual(state.points, [1, 0])

    def test_no_match_and_other_phases(self):
        expect_no_match(self, call_drop)
        expect_other_phase(self, DOUBLED, call_drop)


class GameWithoutDoublesTest(unittest.TestCase):
    def lets_doubles(self, state):
        return state.game.doubles_let

    def test_a_match_to_1_has_none(self):
        self.assertFalse(self.lets_doubles(state_at_opening(1)))

    def test_other_matches_begin_with_doubles(self):
        for goal in range(2, 26):
            self.assertTrue(self.lets_doubles(state_at_opening(goal)))

    def test_only_the_first_game_that_begins_with_one_needing_one_point(self):
        state = state_at_opening(4)
        end_game(state, 0, 2)
        self.assertTrue(self.lets_doubles(state))
        end_game(state, 0, 1)
        self.assertFalse(self.lets_doubles(state))
        end_game(state, 1, 2)
        self.assertTrue(self.lets_doubles(state))
        # The other needs one point too, for the first time: doubles stay on.
        end_game(state, 1, 1)
        self.assertEqual(state.points, [3, 3])
        self.assertTrue(self.lets_doubles(state))

    def test_the_other_player_needing_one_point(self):
        state = state_at_opening(3)
        end_game(state, 1, 2)
        self.assertFalse(self.lets_doubles(state))

    def test_a_new_match_has_its_own(self):
        state = state_at_opening(2)
        end_game(state, 1, 1)
        self.assertFalse(self.lets_doubles(state))
        call_begin(state, 2)
        self.assertTrue(self.lets_doubles(state))
        end_game(state, 1, 1)
        self.assertFalse(self.lets_doubles(state))

    def test_it_comes_behind_a_drop(self):
        state = state_at_turn(0, 2)
        call_double(state)
        self.assertEqual(call_drop(state), [1, 1, 0])
        call_open(state, 1, 2)
        begin_turn(state.game, 0)
        expect_refusal(self, state, -4, call_double)

    def test_doubles_again_in_the_game_behind_it(self):
        state = state_at_opening(3, (2, 0))
        state.doubles_were_off = True
        end_game(state, 1, 1)
        call_open(state, 1, 2)
        begin_turn(state.game, 1)
        self.assertEqual(call_double(state), [2, 1, DOUBLED, 0])
        self.assertEqual(call_drop(state), [1, 2, 2])


class ThrownDiceTest(unittest.TestCase):
    def test_the_greater_first_or_four(self):
        self.assertEqual(thrown_dice(2, 5), [5, 2])
        self.assertEqual(thrown_dice(5, 2), [5, 2])
        self.assertEqual(thrown_dice(3, 3), [3, 3, 3, 3])


class HowItStandsTest(unittest.TestCase):
    def test_three_numbers_or_none(self):
        self.assertEqual(how_it_stands(state_at_opening()), [0, 0, 0])
        self.assertEqual(how_it_stands(state_at_turn(1)), [1, 1, 0])
        self.assertEqual(how_it_stands(state_doubled(1)), [1, 2, 0])
        self.assertEqual(how_it_stands(state_in_steps()), [0, 3, 2])
        self.assertEqual(how_it_stands(state_over()), [])


if __name__ == "__main__":
    unittest.main()
