"""Where both players' checkers stand, and which steps they may make.

A board is a list of two sides, player 0's and player 1's. A side is a list
that tells how many checkers its player has on each of the places 0 to 25, as
that player sees them. A board that was handed in is never changed.
"""

OFF = 0
BAR = 25
LAST_HOME_POINT = 6
CHECKERS = 15

BEGINNING = ((24, 2), (13, 5), (8, 3), (6, 5))


def new_side():
    """One player's checkers at the beginning of a game."""
    side = [0] * 26
    for place, checkers in BEGINNING:
        side[place] = checkers
    return side


def new_board():
    """Both players' checkers at the beginning of a game."""
    return [new_side(), new_side()]


def others_place(point):
    """The place by which the other player knows a point."""
    return 25 - point


def pips(side):
    """Each checker's place, added; off is 0."""
    return sum([place * checkers for place, checkers in enumerate(side)])


def has_none_beyond(side, place):
    """Whether no checker of the side is further from off than the place."""
    return sum(side[place + 1:]) == 0


def may_go_off(side, place, die):
    """Whether a die that reaches off may take a checker from the place."""
    if not has_none_beyond(side, LAST_HOME_POINT):
        return False
    return die == place or has_none_beyond(side, place)


def may_step(board, player, place, die):
    """Whether the player may make the step by itself, whatever the dice."""
    side = board[player]
    if side[place] == 0:
        return False
    if side[BAR] > 0 and place != BAR:
        return False
    if die < place:
        return board[1 - player][others_place(place - die)] < 2
    return may_go_off(side, place, die)


def board_behind(board, player, place, die):
    """A new board: the one behind a step that may be made by itself."""
    behind = [list(board[0]), list(board[1])]
    side = behind[player]
    other_side = behind[1 - player]
    target = max(place - die, OFF)
    side[place] -= 1
    side[target] += 1
    # Off is nobody's point: there nobody is sent to the bar.
    if target != OFF and other_side[others_place(target)] == 1:
        other_side[others_place(target)] = 0
        other_side[BAR] += 1
    return behind


def most_with_first(board, player, die, rest):
    """How many dice can be used at most, if the die is the first; 0 if it can't be."""
    most = 0
    for place in range(1, BAR + 1):
        if may_step(board, player, place, die):
            behind = board_behind(board, player, place, die)
            most = max(most, 1 + most_usable(behind, player, rest))
            # More than all can't be found: what is left needn't be searched.
            if most == 1 + len(rest):
                return most
    return most


def most_usable(board, player, dice):
    """How many of the dice can be used at most, one behind another, in some order."""
    most = 0
    for index, die in enumerate(dice):
        # A die like one ahead of it leads to the same boards again.
        if die not in dice[:index]:
            rest = dice[:index] + dice[index + 1:]
            most = max(most, most_with_first(board, player, die, rest))
    return most


def has_won(board, player):
    """Whether the player has all checkers off."""
    return board[player][OFF] == CHECKERS


def times_won(board, winner):
    """How many times the cube a game is worth to the one who has all checkers off."""
    loser_side = board[1 - winner]
    if loser_side[OFF] > 0:
        return 1
    # The winner's points 1 to 6 are the loser's furthest: the bar is one further still.
    if has_none_beyond(loser_side, others_place(LAST_HOME_POINT + 1)):
        return 2
    return 3
