"""A second reading of the document, as slow and as plain as can be, that the program is held against."""

import functools
import re
import string

ENMITIES = {"quiet": "", "hunters": "h", "men": "mK", "all": "hmK"}


class Game:
    """Rules by their words; cells are pairs x, y."""

    def __init__(self, ground, king, seat, exits, goal):
        self.high, self.wide = len(ground), len(ground[0])
        self.signs = {(x, y): ground[self.high - 1 - y][x] for x in range(self.wide) for y in range(self.high)}
        self.gait, self.arms, self.hold = king.split()
        self.crossing, enmity = seat.split()
        self.enmity = {"S": ENMITIES[enmity], "X": ENMITIES[exits]}
        self.goal = goal

    def over_by_king(self, pieces):
        kings = [c for c in pieces if pieces[c] == "K"]
        if not kings:
            return 1
        x, y = kings[0]
        edge = x == 0 or y == 0 or x == self.wide - 1 or y == self.high - 1
        return 2 if (edge if self.goal == "edge" else self.signs[x, y] == "X") else 0

    def may_move(self, pieces, begin, end):
        piece = pieces[begin]
        dx, dy = end[0] - begin[0], end[1] - begin[1]
        if (dx == 0) == (dy == 0) or end in pieces or self.signs[end] == "#":
            return False
        length = abs(dx + dy)
        if piece == "K" and self.gait == "steps" and length > 1:
            return False
        way = [(begin[0] + dx // length * i, begin[1] + dy // length * i) for i in range(1, length)]
        if any(c in pieces or self.signs[c] == "#" for c in way):
            return False
        if piece == "K":
            return True
        barred = "X" if self.crossing == "passed" else "XS"
        return self.signs[end] == "." and not any(self.signs[c] in barred for c in way)

    def hostile(self, pieces, at, prey):
        sign = self.signs[at]
        return sign in "SX" and not (sign == "S" and at in pieces) and prey in self.enmity[sign]

    def taken(self, pieces, end):
        mover = pieces[end]
        if mover == "K" and self.arms == "bare":
            return []
        friends = "h" if mover == "h" else "mK" if self.arms == "armed" else "m"
        foes = "mK" if mover == "h" else "h"
        gone = []
        for dx, dy in ((0, 1), (1, 0), (0, -1), (-1, 0)):
            at = (end[0] + dx, end[1] + dy)
            if pieces.get(at, ".") not in foes:
                continue
            around = [(at[0] + dx, at[1] + dy)]
            if pieces[at] == "K" and self.hold == "four":
                around = [(at[0] + 1, at[1]), (at[0] - 1, at[1]), (at[0], at[1] + 1), (at[0], at[1] - 1)]
            if all(c in self.signs and (pieces.get(c, ".") in friends or self.hostile(pieces, c, pieces[at]))
                   for c in around):
                gone.append(at)
        return gone

    def moves(self, position):
        """Each move in order: where it begins, where it comes to, whom it takes, and the position then."""
        pieces, turn = dict(position[0]), position[1]
        if self.over_by_king(pieces):
            return []
        order = sorted(self.signs, key=number_of)
        found = []
        for begin in order:
            if pieces.get(begin, ".") in ("h" if turn == "h" else "mK"):
                for end in order:
                    if self.may_move(pieces, begin, end):
                        found.append((begin, end, *self.moved(pieces, turn, begin, end)))
        return found

    def moved(self, pieces, turn, begin, end):
        later = dict(pieces)
        later[end] = later.pop(begin)
        gone = self.taken(later, end)
        for at in gone:
            later.pop(at)
        return gone, (frozenset(later.items()), "k" if turn == "h" else "h")

    def follow(self, position):
        return [move[3] for move in self.moves(position)]

    def over(self, position):
        return self.over_by_king(dict(position[0])) or (0 if self.moves(position) else 3)

    def all_that_comes(self, position, most):
        """The positions in order and what follows each; None if there are more than most."""
        found = [position]
        seen = {position}
        follows = {}
        for each in found:
            follows[each] = self.follow(each)
            for later in follows[each]:
                if later not in seen:
                    seen.add(later)
                    found.append(later)
            if len(found) > most:
                return None
        return found, follows

    def values(self, found, follows):
        """Round by round: who is sure in just 0, 1, 2 .. moves."""
        sure = {}
        for each in found:
            if not follows[each]:
                state = self.over_by_king(dict(each[0]))
                other = 1 if each[1] == "h" else 0
                sure[each] = ({1: 0, 2: 1, 0: other}[state], 0)
        count = 0
        grown = True
        while grown:
            count += 1
            news = {each: self.look(sure, each, follows[each]) for each in found if each not in sure}
            news = {each: (who, count) for each, who in news.items() if who is not None}
            sure.update(news)
            grown = bool(news)
        return [sure.get(each, (2, 0)) for each in found]

    def look(self, sure, position, later):
        mover = 0 if position[1] == "h" else 1
        whose = [sure[each][0] if each in sure else None for each in later]
        if mover in whose:
            return mover
        return 1 - mover if all(who == 1 - mover for who in whose) else None

    def best_answer(self, found, values, number):
        """What the call best answers."""
        if self.over(found[number]):
            return [-4]
        who, count = values[number]
        for begin, end, gone, later in self.moves(found[number]):
            value = values[found.index(later)]
            if value[0] == who and (who == 2 or value[1] == count - 1):
                move = [number_of(begin), number_of(end), self.over(later), *sorted(number_of(c) for c in gone)]
                return [0, found.index(later), len(move), *move]
        raise AssertionError("there is no best move")

    def line(self, position):
        pieces = dict(position[0])
        rows = []
        for y in range(self.high - 1, -1, -1):
            row = "".join(pieces.get((x, y), " ") for x in range(self.wide))
            for length in range(self.wide, 0, -1):
                row = row.replace(" " * length, str(length))
            rows.append(row)
        return "/".join(rows) + " " + position[1]


def number_of(cell):
    return 13 * cell[1] + cell[0]


def table_answer(values):
    """What the call table answers."""
    return [0, len(values), *[0 if who == 2 else 1 + 2 * count + who for who, count in values]]


def sums_answer(values):
    """What the call sums answers."""
    told = [sum(value[0] == who for value in values) for who in (0, 1, 2)]
    for side in (0, 1):
        greatest, first = 0, 0
        for number, (who, count) in reversed(list(enumerate(values))):
            if who == side and count >= greatest:
                greatest, first = count, number
        told += [greatest, first]
    return [0, 7, *told]


ENMITY_WORDS = set(ENMITIES)
CHOICES = tuple(frozenset(words) for words in (
    {"first hunters\n", "first king\n"},
    {f"king {a} {b} {c}\n" for a in ("slides", "steps") for b in ("armed", "bare") for c in ("two", "four")},
    {f"seat {a} {b}\n" for a in ("passed", "barred") for b in ENMITY_WORDS},
    {f"exits {a}\n" for a in ENMITY_WORDS},
    {"goal edge\n", "goal exits\n"},
    {"thrice drawn\n", "thrice hunters\n", "thrice king\n"},
    {f"limit {n}\n" for n in range(1, 60001)},
))
SIZES = frozenset(f" {w} {h}\n" for w in range(5, 14) for h in range(5, 14))
LETTERS = string.ascii_letters


@functools.cache
def beginnings(words):
    """Everything that some of the words begins with."""
    return {word[:n] for word in words for n in range(len(word) + 1)}


def words_of_rules(wide, high):
    """The parts of a text behind its first line, a set of words each."""
    for heading, signs in (("ground\n", ".SX#"), ("start\n", ".hmK")):
        yield frozenset([heading])
        for _ in range(high):
            for _ in range(wide):
                yield frozenset(signs)
            yield frozenset("\n")
    yield from CHOICES


def furthest(text, at, words):
    """How far the text goes along with some word, and whether a word stands there whole."""
    length = 0
    while at + length < len(text) and text[at:at + length + 1] in beginnings(words):
        length += 1
    return at + length, text[at:at + length] in words


def grammar_fault(text):
    """The place of a fault of kind 1; None if there is none."""
    name = 0
    at = len("tafl ")
    if not text.startswith("tafl "):
        return furthest(text, 0, frozenset(["tafl "]))[0]
    while name < 16 and text[at:at + 1] and text[at] in (LETTERS if name == 0 else LETTERS + string.digits):
        name += 1
        at += 1
    if name == 0:
        return at
    begin = at
    at, whole = furthest(text, at, SIZES)
    if not whole:
        return at
    wide, high = [int(size) for size in text[begin:at].split()]
    for words in words_of_rules(wide, high):
        at, whole = furthest(text, at, words)
        if not whole:
            return at
    return None if at == len(text) else at


def later_fault(text):
    """The place and kind of the fault of a text that the grammar has; None if it is right."""
    rows = text.split("\n")
    wide, high = [int(size) for size in rows[0].split()[2:]]
    ground, start = rows[2:2 + high], rows[3 + high:3 + 2 * high]
    word = {row.split()[0]: row for row in rows if row}
    faults = []
    starts_at = [sum(len(row) + 1 for row in rows[:n]) for n in range(len(rows))]
    every = [(r, c) for r in range(high) for c in range(wide)]
    for r, c in [p for p in every if ground[p[0]][p[1]] == "S"][1:]:
        faults.append((starts_at[2 + r] + c, 2))
    for r, c in every:
        if start[r][c] in "hm" and ground[r][c] in "#SX" or start[r][c] == "K" and ground[r][c] in "#X":
            faults.append((starts_at[3 + high + r] + c, 3))
    kings = [p for p in every if start[p[0]][p[1]] == "K"]
    for r, c in kings[1:]:
        faults.append((starts_at[3 + high + r] + c, 4))
    edge = [p for p in kings[:1] if p[0] in (0, high - 1) or p[1] in (0, wide - 1)]
    if (word["goal"] == "goal edge" and edge) or (word["goal"] == "goal exits" and "X" not in "".join(ground)):
        faults.append((text.index("\ngoal ") + 6, 5))
    no_seat = "S" not in "".join(ground) and word["seat"] != "seat passed quiet"
    if not kings or "h" not in "".join(start) or no_seat:
        faults.append((len(text), 6))
    return min(faults) if faults else None


def rules_answer(text):
    """What the call rules answers."""
    place = grammar_fault(text)
    if place is not None:
        return [-6, 1, place]
    fault = later_fault(text)
    return [0] if fault is None else [-6, fault[1], fault[0]]


def line_goes_on(line, wide, high):
    """Whether some line on a ground so wide and high begins so."""
    board, blank, turn = line.partition(" ")
    rows = board.split("/")
    if len(rows) > high or board.count("K") > 1 or turn not in ("", "h", "k"):
        return False
    for n, row in enumerate(rows):
        row_whole = n < len(rows) - 1 or blank == " "
        length = row_length(row)
        if length is None or length > wide or (row_whole and length != wide):
            return False
    return blank == "" or len(rows) == high


def row_length(row):
    """How many cells a row's text tells of; None if it is no such text."""
    length = 0
    for part in re.findall("[0-9]+|.", row, re.DOTALL):
        if part in "hmK":
            length += 1
        elif part[0] in "123456789":
            length += int(part)
        else:
            return None
    return length


def line_answer(line, ground):
    """The fault of a line: kind and place; None if it has none."""
    high, wide = len(ground), len(ground[0])
    length = max(n for n in range(len(line) + 1) if line_goes_on(line[:n], wide, high))
    if length < len(line) or line[-2:] not in (" h", " k"):
        return 1, length
    y, x, number = 0, 0, ""
    for place, sign in enumerate(line[:-2] + "/"):
        if number and not sign.isdigit():
            x, number = x + int(number), ""
        if sign.isdigit():
            number += sign
        elif sign == "/":
            y, x = y + 1, 0
        else:
            if ground[y][x] == "#" or (sign != "K" and ground[y][x] != "."):
                return 2, place
            x += 1
    return None
