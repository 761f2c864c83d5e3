"""Places, steps that may be made by themselves, and how many dice can be used."""

import random
import unittest

from cubematch.board import (board_behind, has_won, may_step, most_usable, new_board, pips,
                             times_won)
from helpers import board_of, pairs_closed, side_of
from reference import random_board, reference_most


class BeginningTest(unittest.TestCase):
    def test_both_players_have_their_fifteen_checkers(self):
        side = [0] * 26
        side[24], side[13], side[8], side[6] = 2, 5, 3, 5
        self.assertEqual(new_board(), [side, side])

    def test_each_board_is_a_new_one(self):
        board = new_board()
        board[0][6] = 0
        self.assertEqual(board[1][6], 5)
        self.assertEqual(new_board()[0][6], 5)


class StepByItselfTest(unittest.TestCase):
    def test_a_checker_must_stand_on_the_place(self):
        board = board_of({10: 1}, {})
        self.assertTrue(may_step(board, 0, 10, 3))
        self.assertFalse(may_step(board, 0, 9, 3))
        self.assertFalse(may_step(board, 1, 10, 3))

    def test_two_or_more_of_the_others_close_a_point(self):
        for others, free in ((0, True), (1, True), (2, False), (3, False)):
            board = board_of({10: 1}, {25 - 7: others})
            self.assertEqual(may_step(board, 0, 10, 3), free)

    def test_own_checkers_close_no_point(self):
        self.assertTrue(may_step(board_of({10: 1, 7: 5}, {}), 0, 10, 3))

    def test_the_second_player_sees_places_of_their_own(self):
        board = board_of({25 - 7: 2}, {10: 1})
        self.assertFalse(may_step(board, 1, 10, 3))
        self.assertTrue(may_step(board, 1, 10, 2))

    def test_from_the_bar_first(self):
        board = board_of({25: 1, 10: 1}, {})
        self.assertFalse(may_step(board, 0, 10, 3))
        self.assertTrue(may_step(board, 0, 25, 3))

    def test_the_bar_also_needs_a_point_that_is_not_closed(self):
        board = board_of({25: 1}, {1: 2, 6: 1})
        self.assertFalse(may_step(board, 0, 25, 1))
        self.assertTrue(may_step(board, 0, 25, 6))

    def test_no_checker_goes_off_while_one_is_beyond_six(self):
        self.assertFalse(may_step(board_of({7: 1, 3: 1}, {}), 0, 3, 3))
        self.assertFalse(may_step(board_of({25: 1, 3: 1}, {}), 0, 3, 3))
        self.assertTrue(may_step(board_of({6: 1, 3: 1}, {}), 0, 3, 3))

    def test_a_greater_die_takes_off_the_furthest_alone(self):
        board = board_of({4: 1, 2: 1}, {})
        self.assertTrue(may_step(board, 0, 4, 5))
        self.assertFalse(may_step(board, 0, 2, 5))
        self.assertFalse(may_step(board, 0, 2, 3))
        self.assertTrue(may_step(board, 0, 2, 2))

    def test_the_last_place_of_home_is_left_by_a_six(self):
        self.assertTrue(may_step(board_of({6: 2}, {}), 0, 6, 6))
        self.assertFalse(may_step(board_of({6: 1}, {25 - 1: 2}), 0, 6, 5))

    def test_others_on_the_bar_close_nothing(self):
        self.assertTrue(may_step(board_of({6: 1}, {25: 2}), 0, 6, 6))

    def test_others_who_are_off_close_nothing(self):
        board = board_of({25: 1}, {})
        self.assertTrue(all(may_step(board, 0, 25, die) for die in range(1, 7)))


class BoardBehindTest(unittest.TestCase):
    def test_a_step_moves_one_checker(self):
        board = board_of({10: 2, 7: 1}, {3: 2})
        self.assertEqual(board_behind(board, 0, 10, 3), board_of({10: 1, 7: 2}, {3: 2}))

    def test_the_board_handed_in_stays(self):
        board = board_of({10: 2}, {18: 1})
        board_behind(board, 0, 10, 3)
        self.assertEqual(board, board_of({10: 2}, {18: 1}))

    def test_one_of_the_others_goes_to_the_bar(self):
        board = board_of({10: 1}, {18: 1, 25: 1})
        self.assertEqual(board_behind(board, 0, 10, 3), board_of({7: 1}, {25: 2}))

    def test_the_second_player_sends_to_the_bar_too(self):
        board = board_of({24: 1, 5: 1}, {25: 1})
        self.assertEqual(board_behind(board, 1, 25, 5), board_of({24: 1, 25: 1}, {20: 1}))

    def test_off_sends_nobody_to_the_bar(self):
        board = board_of({3: 2}, {25: 1, 4: 1})
        self.assertEqual(board_behind(board, 0, 3, 3), board_of({3: 1}, {25: 1, 4: 1}))
        self.assertEqual(board_behind(board, 0, 3, 6), board_of({3: 1}, {25: 1, 4: 1}))


class MostUsableTest(unittest.TestCase):
    def expect(self, most, mine, others, *dice):
        for player, board in ((0, board_of(mine, others)), (1, board_of(others, mine))):
            with self.subTest(player=player):
                before = [list(side) for side in board]
                self.assertEqual(most_usable(board, player, list(dice)), most)
                self.assertEqual(board, before)

    def test_two_unlike_dice(self):
        self.expect(2, {24: 2}, {}, 6, 5)

    def test_no_dice(self):
        self.expect(0, {24: 2}, {})

    def test_none_if_the_way_from_the_bar_is_closed(self):
        self.expect(0, {25: 1, 13: 5}, pairs_closed(20, 22), 5, 3)
        self.expect(0, {25: 1, 13: 5}, pairs_closed(22), 3, 3, 3, 3)

    def test_one_if_a_second_checker_stays_on_the_bar(self):
        self.expect(1, {25: 2, 13: 5}, pairs_closed(20), 5, 3)

    def test_two_if_one_die_enters_and_the_other_goes_on(self):
        self.expect(2, {25: 1, 13: 5}, pairs_closed(20), 5, 3)

    def test_both_dice_in_one_order_alone(self):
        # 10 - 6 is closed; behind 10 - 1 the six may be used.
        self.expect(2, {10: 1}, pairs_closed(4), 6, 1)
        self.expect(2, {10: 1}, pairs_closed(9), 6, 1)
        self.expect(0, {10: 1}, pairs_closed(9, 4), 6, 1)

    def test_either_die_but_not_both(self):
        self.expect(1, {10: 1}, pairs_closed(3), 6, 1)

    def test_the_greater_or_the_less_die_alone(self):
        self.expect(1, {10: 1}, pairs_closed(9, 3), 6, 1)
        self.expect(1, {10: 1}, pairs_closed(4, 3), 6, 1)

    def test_alike_dice_from_none_to_four(self):
        for most, closed in ((0, 11), (1, 9), (2, 7), (3, 5), (4, 1)):
            self.expect(most, {13: 1}, pairs_closed(closed), 2, 2, 2, 2)

    def test_alike_dice_by_several_checkers(self):
        self.expect(3, {13: 3}, pairs_closed(7), 3, 3, 3, 3)
        self.expect(4, {13: 4}, pairs_closed(7), 3, 3, 3, 3)

    def test_fewer_checkers_than_dice(self):
        self.expect(1, {1: 1}, {}, 6, 5)
        self.expect(2, {1: 1, 3: 1}, {}, 6, 5)
        self.expect(3, {1: 3}, {}, 4, 4, 4, 4)
        self.expect(2, {3: 1}, {}, 1, 2)

    def test_both_dice_even_if_one_would_do_to_go_off(self):
        self.expect(2, {6: 1}, {}, 6, 1)

    def test_going_off_begins_within_the_throw(self):
        self.expect(4, {8: 1, 2: 3}, {}, 2, 2, 2, 2)
        self.expect(2, {7: 1, 5: 1}, pairs_closed(2), 5, 1)

    def test_a_hit_frees_the_way(self):
        self.expect(2, {10: 1}, {25 - 4: 1}, 6, 1)


class PipsTest(unittest.TestCase):
    def test_each_checkers_place_added(self):
        self.assertEqual(pips(new_board()[0]), 167)
        self.assertEqual(pips(side_of({25: 2, 1: 3})), 53)
        self.assertEqual(pips(side_of({})), 0)


class WonTest(unittest.TestCase):
    def test_all_checkers_must_be_off(self):
        for player in (0, 1):
            board = [side_of({6: 15}), side_of({6: 15})]
            self.assertFalse(has_won(board, player))
            board[player] = side_of({1: 1})
            self.assertFalse(has_won(board, player))
            board[player] = side_of({})
            self.assertTrue(has_won(board, player))
            self.assertFalse(has_won(board, 1 - player))

    def expect_times(self, times, loser_places):
        for winner in (0, 1):
            board = [side_of({}), side_of({})]
            board[1 - winner] = side_of(loser_places)
            self.assertEqual(times_won(board, winner), times, (winner, loser_places))

    def test_once_if_the_other_has_some_off(self):
        self.expect_times(1, {6: 14})
        self.expect_times(1, {1: 1})
        self.expect_times(1, {25: 1, 24: 1, 6: 12})

    def test_twice_if_the_other_has_none_off(self):
        self.expect_times(2, {6: 15})
        self.expect_times(2, {18: 1, 1: 14})
        self.expect_times(2, {18: 15})

    def test_three_times_if_besides_one_is_on_the_bar_or_in_the_winners_home(self):
        for place in (19, 20, 21, 22, 23, 24, 25):
            self.expect_times(3, {place: 1, 6: 14})
        self.expect_times(3, {25: 15})


class AgainstTheWordsTest(unittest.TestCase):
    def test_many_boards(self):
        chance = random.Random(20)
        seen = set()
        for turn in range(1500):
            board = random_board(chance)
            one, other = chance.randint(1, 6), chance.randint(1, 6)
            dice = [one] * 4 if one == other else [one, other]
            for player in (0, 1):
                most = most_usable(board, player, dice)
                self.assertEqual(most, reference_most(board, player, dice), (board, player, dice))
                seen.add((len(dice), most))
        self.assertEqual(seen, {(2, 0), (2, 1), (2, 2), (4, 0), (4, 1), (4, 2), (4, 3), (4, 4)})


if __name__ == "__main__":
    unittest.main()
