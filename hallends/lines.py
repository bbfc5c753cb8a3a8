"""Positions and their lines.

A position is a pair: a text with a sign for each cell by its number ("." nobody, "h", "m", "K"),
and whose turn it is (0 the hunters', 1 the king's side's).
"""

from hallends.hall import STRIDE, cell_in_order, spread
from hallends.reader import Astray, Reader
from hallends.refusals import LineAtFault

TURNS = ("h", "k")


def read_line(hall, line):
    """The position that a line tells of; LineAtFault if it isn't one that is right in the hall."""
    reader = Reader(line)
    try:
        written = read_board(reader, hall.wide, hall.high)
        reader.take(" ")
        turn = reader.choose(TURNS)
        reader.take_end()
    except Astray as e:
        raise LineAtFault(1, e.place) from None
    cells = spread([piece for piece, place in written], hall.wide, hall.high, ".")
    refuse_misplaced(hall, cells, [place for piece, place in written])
    return (cells, turn)


def refuse_misplaced(hall, cells, places):
    """LineAtFault for the first piece, in the order of the line, that stands where it may not."""
    for order, place in enumerate(places):
        cell = cell_in_order(order, hall.wide, hall.high)
        if cells[cell] != "." and not hall.may_stand(cells[cell], cell):
            raise LineAtFault(2, place)


def read_board(reader, wide, high):
    """For each cell, the uppermost row first, its piece and the place where that is written."""
    written = []
    for row in range(high):
        if row > 0:
            reader.take("/")
        while len(written) < wide * (row + 1):
            written.extend(read_some(reader, wide * (row + 1) - len(written)))
    return written


def read_some(reader, left):
    """Read a piece or a number, where so many cells are left in the row."""
    place = reader.place
    before = reader.text[:place]
    if reader.ahead().isdigit() and not before[-1:].isdigit():
        return [(".", place)] * reader.take_number(1, left)
    pieces = ("h", "m") if "K" in before else ("h", "m", "K")
    return [(reader.take_one_of(pieces), place)]


def line_of(hall, position):
    """The line of a position."""
    cells = position[0]
    rows = []
    for y in range(hall.high - 1, -1, -1):
        rows.append(row_text(cells[STRIDE * y:STRIDE * y + hall.wide]))
    return "/".join(rows) + " " + TURNS[position[1]]


def row_text(cells):
    text = ""
    empty = 0
    for piece in cells:
        if piece == ".":
            empty += 1
        else:
            text += number_text(empty) + piece
            empty = 0
    return text + number_text(empty)


def number_text(empty):
    return str(empty) if empty > 0 else ""
