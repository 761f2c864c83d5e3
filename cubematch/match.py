"""The calls on one match as a list of numbers, and their answers as another."""

from cubematch.calls import call_begin, call_double, call_drop, call_open, call_take, call_throw
from cubematch.calls import call_board, call_give, call_may, call_now, call_step, call_steps
from cubematch.state import State

BEGIN = 1
OPEN = 2
THROW = 3
DOUBLE = 4
TAKE = 5
DROP = 6
STEP = 7
GIVE = 8
NOW = 9
BOARD = 10
MAY = 12

# How many numbers stand behind each call's own.
NUMBERS_BEHIND = {1: 1, 2: 2, 3: 2, 4: 0, 5: 0, 6: 0, 7: 2, 8: 1, 9: 0, 10: 0, 11: 0, 12: 2}


def answer_with_none(state, call):
    """What a call that has no numbers behind it answers, as a list of numbers."""
    if call == DOUBLE:
        return call_double(state)
    if call == TAKE:
        return call_take(state)
    if call == DROP:
        return call_drop(state)
    if call == NOW:
        return call_now(state)
    if call == BOARD:
        return call_board(state)
    # No other such call but steps, 11, is left.
    return call_steps(state)


def answer_to(state, call, numbers):
    """What one call answers, as a list of numbers."""
    if call == BEGIN:
        return call_begin(state, numbers[0])
    if call == OPEN:
        return call_open(state, numbers[0], numbers[1])
    if call == THROW:
        return call_throw(state, numbers[0], numbers[1])
    if call == STEP:
        return call_step(state, numbers[0], numbers[1])
    if call == GIVE:
        return call_give(state, numbers[0])
    if call == MAY:
        return call_may(state, numbers[0], numbers[1])
    return answer_with_none(state, call)


def answers(calls):
    """The answers to the calls, each behind the count of its numbers."""
    state = State()
    told = []
    at = 0
    while at < len(calls):
        behind = at + 1 + NUMBERS_BEHIND[calls[at]]
        answer = answer_to(state, calls[at], calls[at + 1:behind])
        told.append(len(answer))
        told.extend(answer)
        at = behind
    return told
