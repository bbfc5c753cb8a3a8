"""Endings: all positions that come of one, the value of each, the best moves, and the table."""

from hallends.moves import decided, moves_of, position_after
from hallends.refusals import TooMany

HUNTERS = 0
KINGS_SIDE = 1
NOBODY = 2


class Ending:
    """All that comes of a position: the positions by number, the numbers by position, and the values.

    follows has, for each position, the numbers of those that its moves come to, in order.
    """

    def __init__(self, hall, first, most):
        self.positions = [first]
        self.numbers = {first: 0}
        self.follows = []
        while len(self.follows) < len(self.positions):
            self.follow(hall, self.positions[len(self.follows)], most)
        self.worth = values_of(hall, self.positions, self.follows)

    def follow(self, hall, position, most):
        """Number what the moves of a position come to; TooMany if that makes more than most."""
        reached = []
        for move in moves_of(hall, position):
            later = position_after(hall, position, move)
            if later not in self.numbers:
                if len(self.positions) >= most:
                    raise TooMany()
                self.numbers[later] = len(self.positions)
                self.positions.append(later)
            reached.append(self.numbers[later])
        self.follows.append(reached)

    def best_follow(self, number):
        """Which one of a position's moves is the best, by their order from 0; the position is not over."""
        who = self.worth[number][0]
        wanted = (NOBODY, 0) if who == NOBODY else (who, self.worth[number][1] - 1)
        return [self.worth[later] for later in self.follows[number]].index(wanted)

    def table(self):
        return [table_entry(value) for value in self.worth]

    def sums(self):
        """How many are sure for each and for nobody, then of either side the longest and where it is first."""
        winners = [value[0] for value in self.worth]
        counts = [winners.count(who) for who in (HUNTERS, KINGS_SIDE, NOBODY)]
        return counts + longest_for(self.worth, HUNTERS) + longest_for(self.worth, KINGS_SIDE)


def table_entry(value):
    """A value in one number: 0 for nobody's, else 1 + 2 n + who."""
    if value[0] == NOBODY:
        return 0
    return 1 + 2 * value[1] + value[0]


def longest_for(worth, who):
    """The greatest in how many of those that are sure for who, and the first number that has it; 0, 0 of none."""
    lengths = [value[1] for value in worth if value[0] == who]
    if not lengths:
        return [0, 0]
    return [max(lengths), worth.index((who, max(lengths)))]


def values_of(hall, positions, follows):
    """For each position who it is sure for, and in how many.

    Values go backwards from the positions that are over, the soonest first. So the first move found to come
    to what is sure for the mover is the quickest, and the last one found to come to the other's the slowest.
    """
    values = [(NOBODY, 0)] * len(positions)
    unsettled = [len(reached) for reached in follows]
    earlier = reversed_follows(follows)
    queue = [number for number, reached in enumerate(follows) if not reached]
    for number in queue:
        values[number] = (winner(hall, positions[number]), 0)
    done = 0
    while done < len(queue):
        value = values[queue[done]]
        for number in earlier[queue[done]]:
            unsettled[number] -= 1
            settles = positions[number][1] == value[0] or unsettled[number] == 0
            if values[number][0] == NOBODY and settles:
                values[number] = (value[0], value[1] + 1)
                queue.append(number)
        done += 1
    return values


def reversed_follows(follows):
    """For each position the numbers of those that have a move to it."""
    earlier = [[] for reached in follows]
    for number, reached in enumerate(follows):
        for later in reached:
            earlier[later].append(number)
    return earlier


def winner(hall, position):
    """Who has a position that is over."""
    state = decided(hall, position)
    if state == 1:
        return HUNTERS
    if state == 2:
        return KINGS_SIDE
    return 1 - position[1]
