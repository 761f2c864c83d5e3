"""The document's rules of steps told once more, slowly and plainly, to hold the program against."""

import itertools


def reference_steps(board, player, die):
    """The steps that may be made by themselves, as place and the board behind."""
    mine, others = board[player], board[1 - player]
    for place in range(1, 26):
        if not mine[place] or (mine[25] and place != 25):
            continue
        if die < place:
            if others[25 - (place - die)] >= 2:
                continue
        elif any(mine[7:]) or (die != place and any(mine[place + 1:])):
            continue
        new_mine, new_others = list(mine), list(others)
        new_mine[place] -= 1
        new_mine[max(0, place - die)] += 1
        if die < place and others[25 - (place - die)]:
            new_others[25 - (place - die)] -= 1
            new_others[25] += 1
        yield place, [new_mine, new_others] if player == 0 else [new_others, new_mine]


def reference_most(board, player, dice):
    """Each order of the dice, with all boards that it leads to."""
    most = 0
    for order in set(itertools.permutations(dice)):
        boards = [board]
        for used, die in enumerate(order):
            behind = {}
            for one in boards:
                for place, new in reference_steps(one, player, die):
                    behind[str(new)] = new
            if not behind:
                break
            boards = list(behind.values())
            most = max(most, used + 1)
    return most


def reference_lengths(board, player, dice):
    """Each first step, as place and die, with how many dice can be used by it and behind it."""
    lengths = {}
    for die in set(dice):
        rest = list(dice)
        rest.remove(die)
        for place, behind in reference_steps(board, player, die):
            lengths[place, die] = 1 + reference_most(behind, player, rest)
    return lengths


def reference_may_be_made(board, player, dice):
    """The steps that may be made with the dice, by dice from the greater, by places from 25."""
    lengths = reference_lengths(board, player, dice)
    most = max(lengths.values(), default=0)
    found = [step for step, length in lengths.items() if length == most]
    if most == 1 and len(set(dice)) == 2 and any(die == max(dice) for place, die in found):
        found = [(place, die) for place, die in found if die == max(dice)]
    return sorted(found, key=lambda step: (-step[1], -step[0]))


def random_board(chance):
    """Fifteen checkers each, no point with checkers of both."""
    owners = [chance.choice((0, 0, 1)) for point in range(26)]
    low = chance.choice((6, 12, 24))
    sides = [[0] * 26, [0] * 26]
    own = [point for point in range(1, low + 1) if owners[point] == 0]
    theirs = [25 - point for point in range(1, 25) if owners[point] == 1]
    for side, places in ((sides[0], own), (sides[1], theirs)):
        few = chance.sample(places, min(len(places), chance.randint(1, 7)))
        for checker in range(15):
            bar = [25] if chance.random() < 0.3 else []
            side[chance.choice(few + [0] + bar) if few else 0] += 1
    return sides


def are_dice(numbers):
    return all(number in range(1, 7) for number in numbers)


def are_step(numbers):
    return numbers[0] in range(1, 26) and numbers[1] in range(1, 7)


class ReferenceMatch:
    """The calls told once more, held against promises 1 to 3 in one place."""

    RIGHT = {1: lambda numbers: numbers[0] in range(1, 26), 2: are_dice, 3: are_dice,
             7: are_step, 8: lambda numbers: numbers[0] in (1, 2, 3), 12: are_step}
    PHASES = {2: 0, 3: 1, 4: 1, 5: 2, 6: 2, 7: 3, 8: 1, 11: 3}

    def __init__(self):
        self.playing, self.goal, self.points = False, 0, [0, 0]

    def answer(self, call, numbers):
        if call in self.RIGHT and not self.RIGHT[call](numbers):
            return [-1]
        if call not in (1, 9) and not self.playing:
            return [-2]
        if call in self.PHASES and self.PHASES[call] != self.phase:
            return [-3]
        methods = (self.begin, self.opening, self.throw, self.double, self.take, self.drop,
                   self.step, self.give, self.now, self.whole_board, self.steps, self.may)
        return methods[call - 1](*numbers)

    def stands(self):
        return [self.turn, self.phase, self.must] if self.playing else []

    def new_game(self):
        one_short = self.goal - 1 in self.points
        self.doubles = 0 if one_short and not self.lone_game_was else 1
        self.lone_game_was = self.lone_game_was or one_short
        start = [0, 0, 0, 0, 0, 0, 5, 0, 3, 0, 0, 0, 0, 5, 0, 0, 0, 0, 0, 0, 0, 0, 0, 0, 2, 0]
        self.board, self.turn, self.phase, self.must = [list(start), list(start)], 0, 0, 0
        self.cube, self.holder, self.dice = 1, -1, []

    def won(self, winner, won):
        self.points[winner] += won
        if self.points[winner] >= self.goal:
            self.playing = False
        else:
            self.new_game()
        return [won] + self.points

    def begin(self, goal):
        self.playing, self.goal, self.points, self.lone_game_was = True, goal, [0, 0], False
        self.new_game()
        return [0]

    def opening(self, x, y):
        if x == y:
            return [-4]
        self.turn = int(y > x)
        self.throw(x, y)
        return [int(y > x)] + self.stands()

    def throw(self, one, other):
        dice = sorted([one, other] * (2 if one == other else 1), reverse=True)
        must = reference_most(self.board, self.turn, dice)
        self.must, self.phase, self.dice = must, 3, dice
        if must == 0:
            self.others_turn()
        return [must] + self.stands()

    def others_turn(self):
        self.turn, self.phase, self.must, self.dice = 1 - self.turn, 1, 0, []

    def double(self):
        if not self.doubles or self.holder == 1 - self.turn or self.cube == 1024:
            return [-4]
        self.phase = 2
        return [2 * self.cube] + self.stands()

    def take(self):
        self.cube, self.holder, self.phase = 2 * self.cube, 1 - self.turn, 1
        return [self.cube] + self.stands()

    def drop(self):
        return self.won(self.turn, self.cube)

    def give(self, times):
        return self.won(1 - self.turn, times * self.cube)

    def step(self, place, die):
        if (place, die) not in reference_may_be_made(self.board, self.turn, self.dice):
            return [-4]
        self.board = dict(reference_steps(self.board, self.turn, die))[place]
        self.dice.remove(die)
        self.must -= 1
        loser = self.board[1 - self.turn]
        if self.board[self.turn][0] == 15:
            times = 1 if loser[0] else 3 if any(loser[19:]) else 2
            return [2] + self.won(self.turn, times * self.cube)
        if self.must:
            return [0] + self.stands()
        self.others_turn()
        return [1] + self.stands()

    def now(self):
        told = [int(self.playing), self.goal] + self.points
        if not self.playing:
            return told
        return told + self.stands() + [self.cube, self.holder, self.doubles] + self.dice

    def whole_board(self):
        pips = [sum(place * side[place] for place in range(26)) for side in self.board]
        return pips + self.board[0] + self.board[1]

    def steps(self):
        found = reference_may_be_made(self.board, self.turn, self.dice)
        return [len(found)] + [number for step in found for number in step]

    def may(self, place, die):
        return [int(place in dict(reference_steps(self.board, self.turn, die)))]
