"""Endings: all positions that come of one, and the value of each."""

from hallends.moves import decided, moves_of, position_after
from hallends.refusals import TooMany

HUNTERS = 0
KINGS_SIDE = 1
NOBODY = 2


class Ending:
    """All that comes of a position: the positions by number, the numbers by position, and the values.

    follows has, for each position, the numbers of those that its moves come to, in order.
    """

    def __init__(self, hall, first, most):
        self.positions = [first]
        self.numbers = {first: 0}
        self.follows = []
        while len(self.follows) < len(self.positions):
            self.follow(hall, self.positions[len(self.follows)], most)
        self.worth = values_of(hall, self.positions, self.follows)

    def follow(self, hall, position, most):
        """Number what the moves of a position come to; TooMany if that makes more than most."""
        reached = []
        for move in moves_of(hall, position):
            later = position_after(hall, position, move)
            if later not in self.numbers:
                if len(self.positions) >= most:
                    raise TooMany()
                self.numbers[later] = len(self.positions)
                self.positions.append(later)
            reached.append(self.numbers[later])
        self.follows.append(reached)


def values_of(hall, positions, follows):
    """For each position who it is sure for, and in how many.

    Values go backwards from the positions that are over, the soonest first. So the first move found to come
    to what is sure for the mover is the quickest, and the last one found to come to the other's the slowest.
    """
    values = [(NOBODY, 0)] * len(positions)
    unsettled = [len(reached) for reached in follows]
    earlier = reversed_follows(follows)
    queue = [number for number, reached in enumerate(follows) if not reached]
    for number in queue:
        values[number] = (winner(hall, positions[number]), 0)
    done = 0
    while done < len(queue):
        value = values[queue[done]]
        for number in earlier[queue[done]]:
            unsettled[number] -= 1
            settles = positions[number][1] == value[0] or unsettled[number] == 0
            if values[number][0] == NOBODY and settles:
                values[number] = (value[0], value[1] + 1)
                queue.append(number)
        done += 1
    return values


def reversed_follows(follows):
    """For each position the numbers of those that have a move to it."""
    earlier = [[] for reached in follows]
    for number, reached in enumerate(follows):
        for later in reached:
            earlier[later].append(number)
    return earlier


def winner(hall, position):
    """Who has a position that is over."""
    state = decided(hall, position)
    if state == 1:
        return HUNTERS
    if state == 2:
        return KINGS_SIDE
    return 1 - position[1]
