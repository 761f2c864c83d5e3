"""The calls. Each answers a list of numbers: what is told, or a refusal alone.

Refusals: -1 a number is not right, -2 there's no match or it's over, -3 it's
another phase, -4 it may not be. Of several the first one in this order is
answered, so each call checks in this order, ahead of any change.
"""

from cubematch.state import DOUBLED, OPENING, TURN
from cubematch.state import begin_match, begin_turn, end_game, may_double, play_throw

HIGHEST_GOAL = 25


def is_die(number):
    """Whether a die may show the number."""
    return 1 <= number <= 6


def refusal_in(state, phase):
    """-2 or -3, if a call of the phase is to be refused so; else 0."""
    if state.game is None:
        return -2
    if state.game.phase != phase:
        return -3
    return 0


def how_it_stands(state):
    """Whose turn it is, the phase, how many dice must be used still; nothing without a game."""
    game = state.game
    if game is None:
        return []
    return [game.turn, game.phase, game.must_use]


def call_begin(state, goal):
    """A new match, in place of what was."""
    if not 1 <= goal <= HIGHEST_GOAL:
        return [-1]
    begin_match(state, goal)
    return [0]


def call_open(state, x, y):
    """The opening: whoever has the greater die plays both."""
    if not is_die(x) or not is_die(y):
        return [-1]
    refusal = refusal_in(state, OPENING)
    if refusal != 0:
        return [refusal]
    if x == y:
        return [-4]
    first = 0 if x > y else 1
    play_throw(state.game, first, x, y)
    return [first] + how_it_stands(state)


def call_throw(state, one, other):
    """Two dice for the one whose turn it is."""
    if not is_die(one) or not is_die(other):
        return [-1]
    refusal = refusal_in(state, TURN)
    if refusal != 0:
        return [refusal]
    game = state.game
    must_use = play_throw(game, game.turn, one, other)
    return [must_use] + how_it_stands(state)


def call_double(state):
    """Whoever's turn it is offers to play on for twice the cube."""
    refusal = refusal_in(state, TURN)
    if refusal != 0:
        return [refusal]
    game = state.game
    if not may_double(game):
        return [-4]
    game.phase = DOUBLED
    return [game.cube * 2] + how_it_stands(state)


def call_take(state):
    """The one who was doubled takes the cube; whoever doubled goes on."""
    refusal = refusal_in(state, DOUBLED)
    if refusal != 0:
        return [refusal]
    game = state.game
    game.cube = game.cube * 2
    game.holder = 1 - game.turn
    begin_turn(game, game.turn)
    return [game.cube] + how_it_stands(state)


def call_drop(state):
    """The one who was doubled gives up the game for what the cube was."""
    refusal = refusal_in(state, DOUBLED)
    if refusal != 0:
        return [refusal]
    won = state.game.cube
    end_game(state, state.game.turn, won)
    return [won] + state.points
