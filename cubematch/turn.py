"""A turn's steps: which ones may be made with the dice that aren't used yet, and making one."""

from cubematch.board import BAR, board_behind, may_step, most_usable


def without_die(dice, die):
    """The dice that are left when one of them, which shows this, is used."""
    rest = list(dice)
    rest.remove(die)
    return rest


def must_be_first_die(game):
    """Whether just one die must be used and the first, the greater of unlike ones, can be."""
    # Of alike ones each is as good as the first, so they needn't be told apart here.
    return game.must_use == 1 and most_usable(game.board, game.turn, game.dice[:1]) == 1


def may_be_made(game, place, die):
    """Whether the one whose turn it is may make the step now."""
    if die not in game.dice or not may_step(game.board, game.turn, place, die):
        return False
    if die != game.dice[0] and must_be_first_die(game):
        return False
    behind = board_behind(game.board, game.turn, place, die)
    rest = without_die(game.dice, die)
    return most_usable(behind, game.turn, rest) >= game.must_use - 1


def steps_that_may_be_made(game):
    """All such steps, each once, as place and die: the greater die first, places from the bar on."""
    found = []
    for index, die in enumerate(game.dice):
        if die not in game.dice[:index]:
            for place in range(BAR, 0, -1):
                if may_be_made(game, place, die):
                    found.append((place, die))
    return found


def make_step(game, place, die):
    """Makes a step that may be made."""
    game.board = board_behind(game.board, game.turn, place, die)
    game.dice = without_die(game.dice, die)
    game.must_use -= 1
