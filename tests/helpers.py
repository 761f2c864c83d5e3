"""What several test files need: states as they are wished for, their picture, refusals."""

from cubematch.calls import call_begin, call_open, call_throw
from cubematch.state import DOUBLED, OPENING, STEPS, TURN, State

LOWEST = -2147483648
HIGHEST = 2147483647
NOT_A_DIE = (LOWEST, -6, -1, 0, 7, 8, HIGHEST)


def side_of(places):
    """A side from a dict: place to checkers; what is missing to fifteen is off."""
    side = [0] * 26
    for place, checkers in places.items():
        side[place] = checkers
    side[0] += 15 - sum(side)
    return side


def board_of(places0, places1):
    return [side_of(places0), side_of(places1)]


def state_without_match():
    return State()


def state_at_opening(goal=5, points=(0, 0)):
    state = State()
    call_begin(state, goal)
    state.points = list(points)
    return state


def state_in_steps(goal=5, points=(0, 0)):
    state = state_at_opening(goal, points)
    call_open(state, 3, 1)
    return state


def state_at_turn(player=0, goal=5, points=(0, 0)):
    """As it stands behind a turn: the player may double or throw."""
    state = state_in_steps(goal, points)
    game = state.game
    game.turn = player
    game.phase = TURN
    game.dice = []
    game.must_use = 0
    return state


def state_on_board(mine, others, player=0, goal=25):
    """The player is to throw on this board, of which both sides are told as dicts."""
    state = state_at_turn(player, goal)
    sides = (mine, others) if player == 0 else (others, mine)
    state.game.board = board_of(*sides)
    return state


def state_thrown(mine, others, one, other, player=0):
    """The player has thrown these dice on this board."""
    state = state_on_board(mine, others, player)
    call_throw(state, one, other)
    return state


def state_doubled(player=0, goal=5, points=(0, 0)):
    """The player has doubled."""
    state = state_at_turn(player, goal, points)
    state.game.phase = DOUBLED
    return state


def state_over(goal=5):
    state = state_at_opening(goal)
    state.points = [goal, 0]
    state.game = None
    return state


def states_in_other_phases(phase):
    made = {
        OPENING: state_at_opening(),
        TURN: state_at_turn(),
        DOUBLED: state_doubled(),
        STEPS: state_in_steps(),
    }
    return [state for key, state in made.items() if key != phase]


def pairs_closed(*points):
    """The other's side that closes these points of one's own."""
    return {25 - point: 2 for point in points}


def picture(state):
    """All that a state holds, so that two moments can be compared."""
    game = state.game
    kept = [state.goal, list(state.points), state.doubles_were_off]
    if game is None:
        return kept
    board = [list(side) for side in game.board]
    return kept + [board, game.turn, game.phase, game.cube, game.holder,
                   game.doubles_let, list(game.dice), game.must_use]


def expect_refusal(test, state, refusal, call, *numbers):
    """The call is refused with this number alone, and changes nothing."""
    before = picture(state)
    test.assertEqual(call(state, *numbers), [refusal])
    test.assertEqual(picture(state), before)


def expect_no_match(test, call, *numbers):
    """The call is refused without a match and when it's over."""
    for state in (state_without_match(), state_over()):
        expect_refusal(test, state, -2, call, *numbers)


def expect_other_phase(test, phase, call, *numbers):
    """The call is refused in each phase but its own."""
    for state in states_in_other_phases(phase):
        with test.subTest(phase=state.game.phase):
            expect_refusal(test, state, -3, call, *numbers)
