"""Whole lines of calls, played by chance, held against the document's words told once more."""

import random
import unittest

from cubematch.match import answers
from reference import ReferenceMatch

NUMBERS_BEHIND = {1: 1, 2: 2, 3: 2, 4: 0, 5: 0, 6: 0, 7: 2, 8: 1, 9: 0, 10: 0, 11: 0, 12: 2}
ODD = (-2147483648, -2, -1, 0, 7, 24, 25, 26, 2147483647)


class Line:
    """A line of calls as it's played, with the answers that are due."""

    def __init__(self, seed):
        self.chance = random.Random(seed)
        self.match = ReferenceMatch()
        self.calls, self.due, self.seen = [], [], set()

    def call(self, call, *numbers):
        answer = self.match.answer(call, numbers)
        self.calls += [call, *numbers]
        self.due += [len(answer), *answer]
        self.seen.add((call, answer[0] if answer[0] < 0 else 0))
        return answer

    def die(self):
        return self.chance.randint(1, 6)

    def any_call(self):
        """A call that mostly is refused, or only asks."""
        chance = self.chance
        call = chance.choice((1, 2, 3, 4, 5, 6, 7, 7, 7, 8, 9, 10, 11, 12, 12, 12))
        numbers = [self.die() if chance.random() < 0.7 else chance.choice(ODD)
                   for number in range(NUMBERS_BEHIND[call])]
        if call in (7, 12) and chance.random() < 0.5:
            numbers[0] = chance.randint(1, 25)
        # Nothing that ends a game or a match: that is for the play itself.
        if call in (6, 8) or (call == 1 and 1 <= numbers[0] <= 25):
            call, numbers = 9, []
        self.call(call, *numbers)

    def step(self):
        told = self.match.answer(11, ())
        at = self.chance.randrange(told[0])
        self.call(7, told[1 + 2 * at], told[2 + 2 * at])

    def turn(self, boldness):
        roll = self.chance.random()
        if roll < boldness:
            self.call(4)
        elif roll < boldness + 0.004:
            self.call(8, self.chance.randint(1, 3))
        else:
            self.call(3, self.die(), self.die())

    def play(self, boldness):
        """What brings the match further."""
        if not self.match.playing:
            self.call(1, self.chance.randint(1, 25))
        elif self.match.phase == 0:
            self.call(2, self.die(), self.die())
        elif self.match.phase == 1:
            self.turn(boldness)
        elif self.match.phase == 2:
            self.call(6 if self.chance.random() < 0.1 else 5)
        else:
            self.step()

    def fill(self, boldness, others):
        """250 calls: at first some without a match, then play, with so many others in between."""
        for number in range(250):
            if self.chance.random() < (1 if number < 12 else others):
                self.any_call()
            else:
                self.play(boldness)


class WholeMatchesTest(unittest.TestCase):
    def expect_lines(self, seeds, boldness, others):
        """Such lines are answered as is due; tells which calls were let or refused in them."""
        seen = set()
        for seed in seeds:
            line = Line(seed)
            line.fill(boldness, others)
            with self.subTest(seed=seed):
                self.assertEqual(answers(list(line.calls)), line.due)
            seen |= line.seen
        return seen

    def test_many_lines(self):
        seen = self.expect_lines(range(20), 0.5, 0.4) | self.expect_lines(range(20, 30), 0.05, 0.3)
        # Each call was let, and met each refusal that it has (drop and give are only played).
        refusals = {1: (-1,), 2: (-1, -2, -3, -4), 3: (-1, -2, -3), 4: (-2, -3, -4), 5: (-2, -3),
                    6: (), 7: (-1, -2, -3, -4), 8: (), 9: (), 10: (-2,), 11: (-2, -3),
                    12: (-1, -2)}
        due = {(call, told) for call, all_told in refusals.items() for told in (0,) + all_told}
        self.assertEqual(seen, due)

    def test_games_played_to_their_end(self):
        self.expect_lines(range(30, 50), 0, 0)


if __name__ == "__main__":
    unittest.main()
