"""E2 and E3: played out over many small halls, by the values and the best moves that the program tells."""

import random
import unittest

from helper import ask, best, ending, find, rules
from worlds import random_worlds

NOBODY = 2


class Play:
    """The positions that come of one, by number: the values, best moves, all moves, and who has those over."""

    def __init__(self, game, text, position, found):
        lines, self.values = ending(text, game.line(position))
        assert lines == [game.line(each) for each in found]
        asked = ask(rules(text), find(lines[0]), *[best(number) for number in range(len(lines))])[2:]
        self.bests = [answer[1] if answer[0] == 0 else None for answer in asked]
        self.overs = [answer[5] if answer[0] == 0 else None for answer in asked]
        self.movers = ["hk".index(each[1]) for each in found]
        self.moves = [[lines.index(game.line(later)) for later in game.follow(each)] for each in found]
        self.owners = [self.owner(game.over(each), number) for number, each in enumerate(found)]

    def owner(self, over, number):
        """Who has a position that is over; None if it isn't."""
        return {0: None, 1: 0, 2: 1, 3: 1 - self.movers[number]}[over]

    def step(self, numbers, side):
        """What comes of some positions if one side does its best and the other whatever it likes."""
        later = set()
        for number in numbers:
            if self.owners[number] is None:
                later.update([self.bests[number]] if self.movers[number] == side else self.moves[number])
        return later

    def owners_among(self, numbers):
        return {self.owners[number] for number in numbers}


class PromisesTest(unittest.TestCase):
    def setUp(self):
        self.seen = {}

    def plays(self, seed, count):
        for game, text, position in random_worlds(random.Random(seed), count):
            found = game.all_that_comes(position, 100)
            if found is not None:
                with self.subTest(text=text, line=game.line(position)):
                    yield Play(game, text, position, found[0])

    def saw(self, key):
        self.seen[key] = self.seen.get(key, 0) + 1

    def test_following_the_best_moves(self):
        for play in self.plays(19, 500):
            for number, (who, count) in enumerate(play.values):
                if who == NOBODY:
                    self.assertEqual(play.values[play.bests[number]][0], NOBODY)
                    self.assertEqual(play.overs[number], 0)
                else:
                    self.follow(play, number, who, count)
                self.saw((who, min(count, 3)))
        for key in ((0, 0), (0, 1), (0, 2), (0, 3), (1, 0), (1, 1), (1, 2), (1, 3), (2, 0)):
            self.assertGreater(self.seen.get(key, 0), 30, key)

    def follow(self, play, number, who, count):
        """It's over in just so many moves, and as the value says."""
        for left in range(count, 0, -1):
            self.assertEqual(play.values[number], (who, left))
            self.assertIsNone(play.owners[number])
            over, mover = play.overs[number], play.movers[number]
            number = play.bests[number]
            self.assertEqual(play.owners[number], {0: None, 1: 0, 2: 1, 3: mover}[over])
        self.assertEqual(play.owners[number], who)
        self.assertIsNone(play.bests[number])

    def test_whatever_the_other_does(self):
        """Who is sure and plays the best moves has it in so many moves at most, and the other never has it."""
        for play in self.plays(23, 300):
            for number, (who, count) in enumerate(play.values):
                if who != NOBODY:
                    numbers = {number}
                    for _ in range(count):
                        self.assertNotIn(1 - who, play.owners_among(numbers))
                        self.assertNotEqual(numbers, set())
                        numbers = play.step(numbers, who)
                    self.assertEqual(play.owners_among(numbers), {who})
                    self.saw(who)
        self.assertGreater(min(self.seen[0], self.seen[1]), 150)

    def test_not_sooner_if_the_other_does_their_best(self):
        for play in self.plays(29, 300):
            for number, (who, count) in enumerate(play.values):
                if who != NOBODY:
                    numbers = {number}
                    for _ in range(count):
                        self.assertNotIn(who, play.owners_among(numbers))
                        numbers = play.step(numbers, 1 - who)
                    self.assertIn(who, play.owners_among(numbers))
                    self.saw(who)
        self.assertGreater(min(self.seen[0], self.seen[1]), 150)

    def test_either_keeps_the_other_from_it_for_ever(self):
        for play in self.plays(31, 300):
            for number in [number for number, value in enumerate(play.values) if value[0] == NOBODY]:
                for side in (0, 1):
                    reached, newly = set(), {number}
                    while newly - reached:
                        reached |= newly
                        newly = play.step(newly, side)
                    self.assertNotIn(1 - side, play.owners_among(reached))
                    self.saw(side)
        self.assertGreater(self.seen[0], 300)


if __name__ == "__main__":
    unittest.main()
