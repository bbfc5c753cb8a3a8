"""A hall: the ground and the rules that moves and endings ask for."""

# A cell's number is 13 y + x on every ground, however wide it is.
STRIDE = 13
CELLS = 169
NOWHERE = -1
# Up, right, down, left, as steps in x and in y.
STEPS = ((0, 1), (1, 0), (0, -1), (-1, 0))


class Hall:
    """What a right rules' text says; said has it by the words of the document."""

    def __init__(self, said):
        self.wide = said["wide"]
        self.high = said["high"]
        self.ground = spread(said["ground"], said["wide"], said["high"], "#")
        self.beside = [neighbours(cell, said["wide"], said["high"]) for cell in range(CELLS)]
        self.slides = said["slides"]
        self.armed = said["armed"]
        self.four = said["four"]
        self.passed = said["passed"]
        self.seat = said["seat"]
        self.exits = said["exits"]
        self.goal = said["goal"]

    def may_stand(self, piece, cell):
        """Whether the piece may be on the cell in a right position."""
        if piece == "K":
            return self.ground[cell] != "#"
        return self.ground[cell] == "."

    def may_cross(self, piece, cell):
        """Whether the piece may stop on the cell or go over it, if nobody is there."""
        if self.ground[cell] == "S" and self.passed == 1:
            return True
        return self.may_stand(piece, cell)

    def is_goal(self, cell):
        if self.goal == 1:
            return self.ground[cell] == "X"
        return on_edge(cell % STRIDE, cell // STRIDE, self.wide, self.high)


def on_edge(x, y, wide, high):
    return x in (0, wide - 1) or y in (0, high - 1)


def cell_in_order(order, wide, high):
    """The number of the cell that is written at this order (from 0), the uppermost row first."""
    return STRIDE * (high - 1 - order // wide) + order % wide


def spread(written, wide, high, outside):
    """A sign a cell, by the cells' numbers, of rows written the uppermost first; outside for what is off the ground."""
    signs = [outside] * CELLS
    for order, sign in enumerate(written):
        signs[cell_in_order(order, wide, high)] = sign
    return "".join(signs)


def neighbours(cell, wide, high):
    """The cells beside it in the order of STEPS; NOWHERE where the ground ends."""
    found = []
    for dx, dy in STEPS:
        x = cell % STRIDE + dx
        y = cell // STRIDE + dy
        inside = 0 <= x < wide and 0 <= y < high
        found.append(STRIDE * y + x if inside else NOWHERE)
    return found
