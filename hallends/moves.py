"""Moves: where pieces go, whom they take, and when it is over."""

from hallends.hall import NOWHERE

SIDES = (("h",), ("m", "K"))
# An enmity's number has one bit against hunters and one against men and the king.
AGAINST_HUNTERS = 1
AGAINST_MEN = 2


def decided(hall, position):
    """1 if the king is taken, else 2 if he is on the goal, else 0."""
    king = position[0].find("K")
    if king < 0:
        return 1
    return 2 if hall.is_goal(king) else 0


def over_by(hall, position):
    """1 or 2 as decided tells, else 3 if the side whose turn it is has no move, else 0."""
    state = decided(hall, position)
    if state == 0 and not moves_of(hall, position):
        return 3
    return state


def moves_of(hall, position):
    """All moves in order, each a pair: the cell it begins on, the cell it comes to."""
    if decided(hall, position) != 0:
        return []
    cells = position[0]
    found = []
    for begin, piece in enumerate(cells):
        if piece in SIDES[position[1]]:
            found.extend([(begin, end) for end in sorted(ends_from(hall, cells, begin))])
    return found


def ends_from(hall, cells, begin):
    ends = []
    for direction in range(4):
        ends.extend(ends_along(hall, cells, begin, direction))
    return ends


def ends_along(hall, cells, begin, direction):
    piece = cells[begin]
    ends = []
    cell = hall.beside[begin][direction]
    while cell != NOWHERE and cells[cell] == "." and hall.may_cross(piece, cell):
        if hall.may_stand(piece, cell):
            ends.append(cell)
        if piece == "K" and hall.slides == 0:
            break
        cell = hall.beside[cell][direction]
    return ends


def position_after(hall, position, move):
    """The position that a move comes to."""
    cells = cells_moved(position, move)
    # All who are taken are found before one of them goes.
    for cell in taken_at(hall, cells, move[1]):
        cells[cell] = "."
    return ("".join(cells), 1 - position[1])


def taken_by(hall, position, move):
    """The cells, rising, of those whom a move takes."""
    return sorted(taken_at(hall, cells_moved(position, move), move[1]))


def cells_moved(position, move):
    """The cells with the piece where its move comes to, before any other goes."""
    cells = list(position[0])
    cells[move[1]] = cells[move[0]]
    cells[move[0]] = "."
    return cells


def taken_at(hall, cells, end):
    """The cells of those who are taken when a piece has come to the cell end."""
    mover = cells[end]
    if mover == "K" and hall.armed == 0:
        return []
    taken = []
    for direction in range(4):
        cell = hall.beside[end][direction]
        if cell != NOWHERE and is_taken(hall, cells, cell, direction, mover):
            taken.append(cell)
    return taken


def is_taken(hall, cells, cell, direction, mover):
    """Whether the mover takes who is on the cell, in this direction beside it."""
    behind = hall.beside[cell][direction]
    if mover != "h":
        return cells[cell] == "h" and stands_against_hunter(hall, cells, behind)
    if cells[cell] == "K" and hall.four == 1:
        return all([stands_against_man(hall, cells, around) for around in hall.beside[cell]])
    return cells[cell] in ("m", "K") and stands_against_man(hall, cells, behind)


def stands_against_hunter(hall, cells, cell):
    """Whether a hunter is held from this cell: by one of the king's side there, or by the cell itself."""
    if cell == NOWHERE:
        return False
    if cells[cell] == "m" or (cells[cell] == "K" and hall.armed == 1):
        return True
    return enmity(hall, cells, cell) & AGAINST_HUNTERS != 0


def stands_against_man(hall, cells, cell):
    """The same of one of the king's men, or of the king."""
    if cell == NOWHERE:
        return False
    return cells[cell] == "h" or enmity(hall, cells, cell) & AGAINST_MEN != 0


def enmity(hall, cells, cell):
    """The enmity of a cell as it stands now."""
    if hall.ground[cell] == "X":
        return hall.exits
    if hall.ground[cell] == "S" and cells[cell] == ".":
        return hall.seat
    return 0
