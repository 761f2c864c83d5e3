"""Places, steps that may be made by themselves, and how many dice can be used."""

import itertools
import random
import unittest

from cubematch.board import board_behind, may_step, most_usable, new_board
from helpers import board_of


class BeginningTest(unittest.TestCase):
    def test_both_players_have_their_fifteen_checkers(self):
        side = [0] * 26
        side[24], side[13], side[8], side[6] = 2, 5, 3, 5
        self.assertEqual(new_board(), [side, side])

    def test_each_board_is_a_new_one(self):
        board = new_board()
        board[0][6] = 0
        self.assertEqual(board[1][6], 5)
        self.assertEqual(new_board()[0][6], 5)


class StepByItselfTest(unittest.TestCase):
    def test_a_checker_must_stand_on_the_place(self):
        board = board_of({10: 1}, {})
        self.assertTrue(may_step(board, 0, 10, 3))
        self.assertFalse(may_step(board, 0, 9, 3))
        self.assertFalse(may_step(board, 1, 10, 3))

    def test_two_or_more_of_the_others_close_a_point(self):
        for others, free in ((0, True), (1, True), (2, False), (3, False)):
            board = board_of({10: 1}, {25 - 7: others})
            self.assertEqual(may_step(board, 0, 10, 3), free)

    def test_own_checkers_close_no_point(self):
        self.assertTrue(may_step(board_of({10: 1, 7: 5}, {}), 0, 10, 3))

    def test_the_second_player_sees_places_of_their_own(self):
        board = board_of({25 - 7: 2}, {10: 1})
        self.assertFalse(may_step(board, 1, 10, 3))
        self.assertTrue(may_step(board, 1, 10, 2))

    def test_from_the_bar_first(self):
        board = board_of({25: 1, 10: 1}, {})
        self.assertFalse(may_step(board, 0, 10, 3))
        self.assertTrue(may_step(board, 0, 25, 3))

    def test_the_bar_also_needs_a_point_that_is_not_closed(self):
        board = board_of({25: 1}, {1: 2, 6: 1})
        self.assertFalse(may_step(board, 0, 25, 1))
        self.assertTrue(may_step(board, 0, 25, 6))

    def test_no_checker_goes_off_while_one_is_beyond_six(self):
        self.assertFalse(may_step(board_of({7: 1, 3: 1}, {}), 0, 3, 3))
        self.assertFalse(may_step(board_of({25: 1, 3: 1}, {}), 0, 3, 3))
        self.assertTrue(may_step(board_of({6: 1, 3: 1}, {}), 0, 3, 3))

    def test_a_greater_die_takes_off_the_furthest_alone(self):
        board = board_of({4: 1, 2: 1}, {})
        self.assertTrue(may_step(board, 0, 4, 5))
        self.assertFalse(may_step(board, 0, 2, 5))
        self.assertFalse(may_step(board, 0, 2, 3))
        self.assertTrue(may_step(board, 0, 2, 2))

    def test_the_last_place_of_home_is_left_by_a_six(self):
        self.assertTrue(may_step(board_of({6: 2}, {}), 0, 6, 6))
        self.assertFalse(may_step(board_of({6: 1}, {25 - 1: 2}), 0, 6, 5))

    def test_others_on_the_bar_close_nothing(self):
        self.assertTrue(may_step(board_of({6: 1}, {25: 2}), 0, 6, 6))

    def test_others_who_are_off_close_nothing(self):
        board = board_of({25: 1}, {})
        self.assertTrue(all(may_step(board, 0, 25, die) for die in range(1, 7)))


class BoardBehindTest(unittest.TestCase):
    def test_a_step_moves_one_checker(self):
        board = board_of({10: 2, 7: 1}, {3: 2})
        self.assertEqual(board_behind(board, 0, 10, 3), board_of({10: 1, 7: 2}, {3: 2}))

    def test_the_board_handed_in_stays(self):
        board = board_of({10: 2}, {18: 1})
        board_behind(board, 0, 10, 3)
        self.assertEqual(board, board_of({10: 2}, {18: 1}))

    def test_one_of_the_others_goes_to_the_bar(self):
        board = board_of({10: 1}, {18: 1, 25: 1})
        self.assertEqual(board_behind(board, 0, 10, 3), board_of({7: 1}, {25: 2}))

    def test_the_second_player_sends_to_the_bar_too(self):
        board = board_of({24: 1, 5: 1}, {25: 1})
        self.assertEqual(board_behind(board, 1, 25, 5), board_of({24: 1, 25: 1}, {20: 1}))

    def test_off_sends_nobody_to_the_bar(self):
        board = board_of({3: 2}, {25: 1, 4: 1})
        self.assertEqual(board_behind(board, 0, 3, 3), board_of({3: 1}, {25: 1, 4: 1}))
        self.assertEqual(board_behind(board, 0, 3, 6), board_of({3: 1}, {25: 1, 4: 1}))


def pairs_closed(*points):
    """The other's side that closes these points of one's own."""
    return {25 - point: 2 for point in points}


class MostUsableTest(unittest.TestCase):
    def expect(self, most, mine, others, *dice):
        for player, board in ((0, board_of(mine, others)), (1, board_of(others, mine))):
            with self.subTest(player=player):
                before = [list(side) for side in board]
                self.assertEqual(most_usable(board, player, list(dice)), most)
                self.assertEqual(board, before)

    def test_two_unlike_dice(self):
        self.expect(2, {24: 2}, {}, 6, 5)

    def test_no_dice(self):
        self.expect(0, {24: 2}, {})

    def test_none_if_the_way_from_the_bar_is_closed(self):
        self.expect(0, {25: 1, 13: 5}, pairs_closed(20, 22), 5, 3)
        self.expect(0, {25: 1, 13: 5}, pairs_closed(22), 3, 3, 3, 3)

    def test_one_if_a_second_checker_stays_on_the_bar(self):
        self.expect(1, {25: 2, 13: 5}, pairs_closed(20), 5, 3)

    def test_two_if_one_die_enters_and_the_other_goes_on(self):
        self.expect(2, {25: 1, 13: 5}, pairs_closed(20), 5, 3)

    def test_both_dice_in_one_order_alone(self):
        # 10 - 6 is closed; behind 10 - 1 the six may be used.
        self.expect(2, {10: 1}, pairs_closed(4), 6, 1)
        self.expect(2, {10: 1}, pairs_closed(9), 6, 1)
        self.expect(0, {10: 1}, pairs_closed(9, 4), 6, 1)

    def test_either_die_but_not_both(self):
        self.expect(1, {10: 1}, pairs_closed(3), 6, 1)

    def test_the_greater_or_the_less_die_alone(self):
        self.expect(1, {10: 1}, pairs_closed(9, 3), 6, 1)
        self.expect(1, {10: 1}, pairs_closed(4, 3), 6, 1)

    def test_alike_dice_from_none_to_four(self):
        for most, closed in ((0, 11), (1, 9), (2, 7), (3, 5), (4, 1)):
            self.expect(most, {13: 1}, pairs_closed(closed), 2, 2, 2, 2)

    def test_alike_dice_by_several_checkers(self):
        self.expect(3, {13: 3}, pairs_closed(7), 3, 3, 3, 3)
        self.expect(4, {13: 4}, pairs_closed(7), 3, 3, 3, 3)

    def test_fewer_checkers_than_dice(self):
        self.expect(1, {1: 1}, {}, 6, 5)
        self.expect(2, {1: 1, 3: 1}, {}, 6, 5)
        self.expect(3, {1: 3}, {}, 4, 4, 4, 4)
        self.expect(2, {3: 1}, {}, 1, 2)

    def test_both_dice_even_if_one_would_do_to_go_off(self):
        self.expect(2, {6: 1}, {}, 6, 1)

    def test_going_off_begins_within_the_throw(self):
        self.expect(4, {8: 1, 2: 3}, {}, 2, 2, 2, 2)
        self.expect(2, {7: 1, 5: 1}, pairs_closed(2), 5, 1)

    def test_a_hit_frees_the_way(self):
        self.expect(2, {10: 1}, {25 - 4: 1}, 6, 1)


def reference_steps(board, player, die):
    """The boards behind one step, told by the document's words once more."""
    mine, others = board[player], board[1 - player]
    for place in range(1, 26):
        if not mine[place] or (mine[25] and place != 25):
            continue
        if die < place:
            if others[25 - (place - die)] >= 2:
                continue
        elif any(mine[7:]) or (die != place and any(mine[place + 1:])):
            continue
        new_mine, new_others = list(mine), list(others)
        new_mine[place] -= 1
        new_mine[max(0, place - die)] += 1
        if die < place and others[25 - (place - die)]:
            new_others[25 - (place - die)] -= 1
            new_others[25] += 1
        yield [new_mine, new_others] if player == 0 else [new_others, new_mine]


def reference_most(board, player, dice):
    """Each order of the dice, with all boards that it leads to."""
    most = 0
    for order in set(itertools.permutations(dice)):
        boards = [board]
        for used, die in enumerate(order):
            behind = {}
            for one in boards:
                for new in reference_steps(one, player, die):
                    behind[str(new)] = new
            if not behind:
                break
            boards = list(behind.values())
            most = max(most, used + 1)
    return most


def random_board(chance):
    """Fifteen checkers each, no point with checkers of both."""
    owners = [chance.choice((0, 0, 1)) for point in range(26)]
    low = chance.choice((6, 12, 24))
    sides = [[0] * 26, [0] * 26]
    own = [point for point in range(1, low + 1) if owners[point] == 0]
    theirs = [25 - point for point in range(1, 25) if owners[point] == 1]
    for side, places in ((sides[0], own), (sides[1], theirs)):
        few = chance.sample(places, min(len(places), chance.randint(1, 7)))
        for checker in range(15):
            bar = [25] if chance.random() < 0.3 else []
            side[chance.choice(few + [0] + bar) if few else 0] += 1
    return sides


class AgainstTheWordsTest(unittest.TestCase):
    def test_many_boards(self):
        chance = random.Random(20)
        seen = set()
        for turn in range(1500):
            board = random_board(chance)
            one, other = chance.randint(1, 6), chance.randint(1, 6)
            dice = [one] * 4 if one == other else [one, other]
            for player in (0, 1):
                most = most_usable(board, player, dice)
                self.assertEqual(most, reference_most(board, player, dice), (board, player, dice))
                seen.add((len(dice), most))
        self.assertEqual(seen, {(2, 0), (2, 1), (2, 2), (4, 0), (4, 1), (4, 2), (4, 3), (4, 4)})


if __name__ == "__main__":
    unittest.main()
