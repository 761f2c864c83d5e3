"""The calls. Each answers a list of numbers: what is told, or a refusal alone.

Refusals: -1 a number is not right, -2 there's no match or it's over, -3 it's
another phase, -4 it may not be. Of several the first one in this order is
answered, so each call checks in this order, ahead of any change.
"""

from cubematch.board import BAR, has_won, may_step, pips, times_won
from cubematch.state import DOUBLED, OPENING, STEPS, TURN
from cubematch.state import begin_match, begin_turn, end_game, may_double, play_throw
from cubematch.turn import make_step, may_be_made, steps_that_may_be_made

HIGHEST_GOAL = 25
HIGHEST_TIMES = 3


def is_die(number):
    """Whether a die may show the number."""
    return 1 <= number <= 6


def is_step(place, die):
    """Whether there's such a place to step from, and such a die."""
    return 1 <= place <= BAR and is_die(die)


def refusal_in(state, phase):
    """-2 or -3, if a call of the phase is to be refused so; else 0."""
    if state.game is None:
        return -2
    if state.game.phase != phase:
        return -3
    return 0


def how_it_stands(state):
    """Whose turn it is, the phase, how many dice must be used still; nothing without a game."""
    game = state.game
    if game is None:
        return []
    return [game.turn, game.phase, game.must_use]


def points_won(state, winner, won):
    """Ends the game, and tells the points won and those that both have now."""
    end_game(state, winner, won)
    return [won] + state.points


def call_begin(state, goal):
    """A new match, in place of what was."""
    if not 1 <= goal <= HIGHEST_GOAL:
        return [-1]
    begin_match(state, goal)
    return [0]


def call_open(state, x, y):
    """The opening: whoever has the greater die plays both."""
    if not is_die(x) or not is_die(y):
        return [-1]
    refusal = refusal_in(state, OPENING)
    if refusal != 0:
        return [refusal]
    if x == y:
        return [-4]
    first = 0 if x > y else 1
    play_throw(state.game, first, x, y)
    return [first] + how_it_stands(state)


def call_throw(state, one, other):
    """Two dice for the one whose turn it is."""
    if not is_die(one) or not is_die(other):
        return [-1]
    refusal = refusal_in(state, TURN)
    if refusal != 0:
        return [refusal]
    game = state.game
    must_use = play_throw(game, game.turn, one, other)
    return [must_use] + how_it_stands(state)


def call_double(state):
    """Whoever's turn it is offers to play on for twice the cube."""
    refusal = refusal_in(state, TURN)
    if refusal != 0:
        return [refusal]
    game = state.game
    if not may_double(game):
        return [-4]
    game.phase = DOUBLED
    return [game.cube * 2] + how_it_stands(state)


def call_take(state):
    """The one who was doubled takes the cube; whoever doubled goes on."""
    refusal = refusal_in(state, DOUBLED)
    if refusal != 0:
        return [refusal]
    game = state.game
    game.cube = game.cube * 2
    game.holder = 1 - game.turn
    begin_turn(game, game.turn)
    return [game.cube] + how_it_stands(state)


def call_drop(state):
    """The one who was doubled gives up the game for what the cube was."""
    refusal = refusal_in(state, DOUBLED)
    if refusal != 0:
        return [refusal]
    game = state.game
    return points_won(state, game.turn, game.cube)


def call_step(state, place, die):
    """One checker's step, by the one whose turn it is."""
    if not is_step(place, die):
        return [-1]
    refusal = refusal_in(state, STEPS)
    if refusal != 0:
        return [refusal]
    game = state.game
    if not may_be_made(game, place, die):
        return [-4]
    make_step(game, place, die)
    if has_won(game.board, game.turn):
        won = times_won(game.board, game.turn) * game.cube
        return [2] + points_won(state, game.turn, won)
    if game.must_use > 0:
        return [0] + how_it_stands(state)
    begin_turn(game, 1 - game.turn)
    return [1] + how_it_stands(state)


def call_give(state, times):
    """Whoever's turn it is gives up the game for so many times the cube."""
    if not 1 <= times <= HIGHEST_TIMES:
        return [-1]
    refusal = refusal_in(state, TURN)
    if refusal != 0:
        return [refusal]
    game = state.game
    return points_won(state, 1 - game.turn, times * game.cube)


def call_now(state):
    """The match and, if one is being played, the game. It's never refused."""
    goal_and_points = [state.goal] + state.points
    game = state.game
    if game is None:
        return [0] + goal_and_points
    holder = [-1] if game.holder is None else [game.holder]
    doubles = [1] if game.doubles_let else [0]
    of_cube = [game.cube] + holder + doubles
    return [1] + goal_and_points + how_it_stands(state) + of_cube + game.dice


def call_board(state):
    """Both players' pips, then where their checkers are."""
    if state.game is None:
        return [-2]
    board = state.game.board
    return [pips(board[0]), pips(board[1])] + board[0] + board[1]


def call_steps(state):
    """All steps that may be made now, each as its place and its die."""
    refusal = refusal_in(state, STEPS)
    if refusal != 0:
        return [refusal]
    found = steps_that_may_be_made(state.game)
    told = [len(found)]
    for place, die in found:
        told.extend([place, die])
    return told


def call_may(state, place, die):
    """Whether the one whose turn it is might make the step by itself, whatever the dice."""
    if not is_step(place, die):
        return [-1]
    game = state.game
    if game is None:
        return [-2]
    return [1] if may_step(game.board, game.turn, place, die) else [0]
