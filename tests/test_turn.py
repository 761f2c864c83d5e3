"""Which steps may be made while dice must be used still."""

import random
import unittest

from cubematch.calls import call_throw
from cubematch.state import STEPS
from cubematch.turn import make_step, may_be_made, steps_that_may_be_made, without_die
from helpers import pairs_closed, state_at_turn, state_thrown
from reference import random_board, reference_may_be_made


class WithoutDieTest(unittest.TestCase):
    def test_one_die_less_and_the_order_stays(self):
        dice = [5, 5, 5, 5]
        self.assertEqual(without_die(dice, 5), [5, 5, 5])
        self.assertEqual(dice, [5, 5, 5, 5])
        self.assertEqual(without_die([6, 2], 6), [2])
        self.assertEqual(without_die([6, 2], 2), [6])


class MayBeMadeTest(unittest.TestCase):
    def expect(self, found, mine, others, one, other):
        """Just these steps may be made behind the throw, for either player."""
        for player in (0, 1):
            with self.subTest(player=player):
                game = state_thrown(mine, others, one, other, player).game
                self.assertEqual(game.phase, STEPS)
                self.assertEqual(steps_that_may_be_made(game), found)
                for place in range(1, 26):
                    for die in range(1, 7):
                        made = may_be_made(game, place, die)
                        self.assertEqual(made, (place, die) in found, (place, die))

    def test_the_beginning_of_a_game(self):
        found = [(24, 3), (13, 3), (8, 3), (6, 3), (24, 1), (8, 1), (6, 1)]
        game = state_at_turn().game
        game.phase, game.dice, game.must_use = STEPS, [3, 1], 2
        self.assertEqual(steps_that_may_be_made(game), found)

    def test_dice_alike_are_told_once(self):
        self.expect([(24, 2), (13, 2)], {24: 2, 13: 1}, {}, 2, 2)

    def test_the_greater_die_first_however_thrown(self):
        for dice in ((6, 2), (2, 6)):
            self.expect([(24, 6), (13, 6), (24, 2), (13, 2)], {24: 1, 13: 1}, {}, *dice)

    def test_either_die_could_be_used_but_not_both_so_the_greater(self):
        self.expect([(10, 6)], {10: 1}, pairs_closed(3), 6, 1)

    def test_the_less_die_alone_can_be_used(self):
        self.expect([(10, 1)], {10: 1}, pairs_closed(4, 3), 6, 1)

    def test_the_greater_die_alone_can_be_used(self):
        self.expect([(10, 6)], {10: 1}, pairs_closed(9, 3), 6, 1)

    def test_from_the_bar_the_greater_one(self):
        self.expect([(25, 6)], {25: 2, 13: 5}, {3: 1, 20: 2} | pairs_closed(24), 6, 1)
        self.expect([(25, 4)], {25: 1}, pairs_closed(18), 4, 3)
        self.expect([(25, 3)], {25: 1}, pairs_closed(18, 21), 4, 3)

    def test_from_the_bar_alone_while_one_is_there(self):
        self.expect([(25, 6), (25, 1)], {25: 1, 13: 1, 8: 1}, {}, 6, 1)
        self.expect([(25, 2)], {25: 1, 13: 1, 8: 1}, {}, 2, 2)

    def test_right_by_itself_but_too_few_could_be_used_behind_it(self):
        # A six goes from 12 alone: behind the one from 9 there'd be none.
        self.expect([(13, 1)], {13: 1, 9: 1}, pairs_closed(7, 3, 2), 6, 1)
        # The six would win the game, but the one couldn't be used behind it.
        self.expect([(6, 1)], {6: 1}, {13: 2}, 6, 1)

    def test_a_step_by_the_other_die_first(self):
        # Behind either step the other die takes the checker off.
        self.expect([(7, 6), (7, 5)], {7: 1}, {}, 6, 5)

    def test_going_off_with_a_greater_die(self):
        self.expect([(4, 6), (4, 5)], {4: 2, 2: 1}, {}, 6, 5)
        self.expect([(4, 6), (4, 3)], {4: 1, 2: 1}, {}, 6, 3)
        self.expect([(6, 5), (5, 5)], {6: 1, 5: 2}, {}, 5, 5)

    def test_none_beyond_is_asked_behind_the_first_step(self):
        # The checker on 7 must come home first: its step by 1 lets the 6 go off.
        self.expect([(7, 6), (7, 1), (5, 1)], {7: 1, 5: 1}, {}, 6, 1)

    def test_behind_a_step_the_other_die_is_left(self):
        state = state_thrown({24: 2}, {}, 6, 5)
        make_step(state.game, 24, 5)
        self.assertEqual(state.game.dice, [6])
        self.assertEqual(steps_that_may_be_made(state.game), [(24, 6), (19, 6)])

    def test_behind_a_step_alike_dice_are_left(self):
        state = state_thrown({24: 1, 3: 2}, pairs_closed(18), 2, 2)
        # The one on 24 can go but two steps, those on 3 one each.
        self.assertEqual(state.game.must_use, 4)
        make_step(state.game, 3, 2)
        self.assertEqual(state.game.dice, [2, 2, 2])
        self.assertEqual(steps_that_may_be_made(state.game), [(24, 2), (3, 2)])
        make_step(state.game, 3, 2)
        self.assertEqual(steps_that_may_be_made(state.game), [(24, 2)])

    def test_of_four_alike_one_two_or_three_can_be_used(self):
        for most, closed in ((1, 9), (2, 7), (3, 5)):
            state = state_thrown({13: 1}, pairs_closed(closed), 2, 2)
            game = state.game
            self.assertEqual((game.must_use, game.dice), (most, [2, 2, 2, 2]))
            for used in range(most):
                self.assertEqual(steps_that_may_be_made(game), [(13 - 2 * used, 2)])
                make_step(game, 13 - 2 * used, 2)
            self.assertEqual((game.must_use, game.dice), (0, [2] * (4 - most)))

    def test_three_of_four_alike_by_two_checkers(self):
        game = state_thrown({13: 1, 12: 1}, pairs_closed(7, 8), 2, 2).game
        self.assertEqual(game.must_use, 3)
        make_step(game, 13, 2)
        self.assertEqual(steps_that_may_be_made(game), [(12, 2), (11, 2)])
        make_step(game, 11, 2)
        self.assertEqual((game.must_use, game.dice), (1, [2, 2]))
        self.assertEqual(steps_that_may_be_made(game), [(12, 2)])


class AgainstTheWordsTest(unittest.TestCase):
    def test_many_boards_with_every_step_of_a_turn(self):
        chance = random.Random(7)
        seen = set()
        for turn in range(1500):
            player = chance.randint(0, 1)
            state = state_at_turn(player)
            game = state.game
            game.board = random_board(chance)
            one = chance.randint(1, 6)
            call_throw(state, one, chance.choice((one, chance.randint(1, 6))))
            while game.must_use > 0:
                due = reference_may_be_made(game.board, player, game.dice)
                self.assertEqual(steps_that_may_be_made(game), due, (game.board, game.dice))
                seen.add((len(game.dice), game.must_use))
                make_step(game, *chance.choice(due))
        self.assertEqual(seen, {(1, 1), (2, 1), (2, 2), (3, 1), (3, 2), (3, 3),
                                (4, 1), (4, 2), (4, 3), (4, 4)})


if __name__ == "__main__":
    unittest.main()
