"""What is kept between the calls: the match, and the game that is being played."""

from cubematch.board import most_usable, new_board

OPENING = 0
TURN = 1
DOUBLED = 2
STEPS = 3

HIGHEST_CUBE = 1024


class Game:
    """One game, from its opening on."""

    def __init__(self, doubles_let):
        self.board = new_board()
        # In an opening it's told to be player 0's turn.
        self.turn = 0
        self.phase = OPENING
        self.cube = 1
        # None: nobody holds the cube.
        self.holder = None
        self.doubles_let = doubles_let
        # The dice that aren't used yet, and how many of them must be.
        self.dice = []
        self.must_use = 0


class State:
    """A match and its game; there's no game if there's no match or it's over."""

    def __init__(self):
        self.goal = 0
        self.points = [0, 0]
        # Whether the game without doubles has begun already.
        self.doubles_were_off = False
        self.game = None


def begin_match(state, goal):
    """A new match to so many points, at its first game's opening."""
    state.goal = goal
    state.points = [0, 0]
    state.doubles_were_off = False
    begin_game(state)


def begin_game(state):
    """The match's next game, without doubles if it's the one that has none."""
    needs_one = max(state.points) == state.goal - 1
    doubles_off = needs_one and not state.doubles_were_off
    state.doubles_were_off = state.doubles_were_off or doubles_off
    state.game = Game(not doubles_off)


def end_game(state, winner, won):
    """Counts the points of a game that was won; the next begins, or the match is over."""
    points = list(state.points)
    points[winner] += won
    state.points = points
    if points[winner] >= state.goal:
        state.game = None
    else:
        begin_game(state)


def begin_turn(game, player):
    """The player may double or throw."""
    game.turn = player
    game.phase = TURN
    game.dice = []
    game.must_use = 0


def thrown_dice(one, other):
    """The dice that are to be used: the greater first; four, if they're alike."""
    if one == other:
        return [one] * 4
    return [max(one, other), min(one, other)]


def play_throw(game, player, one, other):
    """Gives the player two dice to use, and answers how many of them must be used.

    If none can be, it's the other's turn at once.
    """
    dice = thrown_dice(one, other)
    must_use = most_usable(game.board, player, dice)
    if must_use == 0:
        begin_turn(game, 1 - player)
        return 0
    game.turn = player
    game.phase = STEPS
    game.dice = dice
    game.must_use = must_use
    return must_use


def may_double(game):
    """Whether the one whose turn it is may double, in the phase where one may."""
    if not game.doubles_let or game.cube >= HIGHEST_CUBE:
        return False
    return game.holder is None or game.holder == game.turn
