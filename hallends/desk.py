"""The desk: takes a list of calls on one object and gives the list of answers."""

from hallends.endings import Ending
from hallends.lines import line_of, read_line
from hallends.moves import moves_of, over_by, taken_by
from hallends.reader import codes_of, text_of
from hallends.refusals import AlreadyOver, NoSuchPosition, NothingThere, Refusal, WrongMost
from hallends.rules import read_rules

GREATEST_MOST = 200


class Feed:
    """The numbers handed in, and how far they have been read."""

    def __init__(self, numbers):
        self.handed = numbers
        self.at = 0

    def has_more(self):
        return self.at < len(self.handed)

    def take_whole(self):
        """The next number."""
        number = self.handed[self.at]
        self.at += 1
        return number

    def take_row(self):
        """The next row of numbers, which has its length before it."""
        length = self.take_whole()
        row = self.handed[self.at:self.at + length]
        self.at += length
        return row

    def take_text(self):
        """The next row of bytes as a text."""
        return text_of(self.take_row())


class Desk:
    """The object of the calls: its rules and what it holds, None while there are none."""

    def __init__(self):
        self.hall = None
        self.ending = None

    def set_rules(self, text):
        self.hall = read_rules(text)
        self.ending = None
        return [0]

    def find_all(self, most, line):
        self.ending = self.all_that_comes(most, line)
        return [len(self.ending.positions)]

    def all_that_comes(self, most, line):
        """All that comes of the line's position, without holding it."""
        if self.hall is None:
            raise NothingThere()
        first = read_line(self.hall, line)
        if most < 1 or most > GREATEST_MOST:
            raise WrongMost()
        return Ending(self.hall, first, most)

    def held(self):
        if self.ending is None:
            raise NothingThere()
        return self.ending

    def held_with(self, number):
        """What is held, if it has a position of this number."""
        ending = self.held()
        if number >= len(ending.positions):
            raise NoSuchPosition()
        return ending

    def tell_line(self, number):
        position = self.held_with(number).positions[number]
        return [0] + counted(codes_of(line_of(self.hall, position)))

    def tell_number(self, line):
        numbers = self.held().numbers
        position = read_line(self.hall, line)
        if position not in numbers:
            raise NoSuchPosition()
        return [numbers[position]]

    def tell_value(self, number):
        value = self.held_with(number).worth[number]
        return [0, value[0], value[1]]

    def tell_best(self, number):
        ending = self.held_with(number)
        position = ending.positions[number]
        if over_by(self.hall, position) != 0:
            raise AlreadyOver()
        choice = ending.best_follow(number)
        move = moves_of(self.hall, position)[choice]
        later = ending.follows[number][choice]
        over = over_by(self.hall, ending.positions[later])
        return [0, later] + counted([move[0], move[1], over] + taken_by(self.hall, position, move))

    def tell_sums(self):
        return [0] + counted(self.held().sums())

    def tell_table(self):
        return [0] + counted(self.held().table())

    def judge(self, most, line, table):
        right = self.all_that_comes(most, line).table()
        return [1] if table == right else [0]


def counted(row):
    """A list as it is told: how many numbers it has, then these."""
    return [len(row)] + row


def answers(calls):
    """For each call, in order, how many numbers are answered, then these."""
    feed = Feed(calls)
    desk = Desk()
    told = []
    while feed.has_more():
        answer = answer_call(desk, feed)
        told.append(len(answer))
        told.extend(answer)
    return told


def answer_call(desk, feed):
    try:
        return answer_or_refuse(desk, feed)
    except Refusal as e:
        return e.told


def answer_or_refuse(desk, feed):
    """Read one call whole, then carry it out, so that a refusal leaves the next call in its place."""
    call = feed.take_whole()
    if call == 0:
        return desk.set_rules(feed.take_text())
    if call == 1:
        most = feed.take_whole()
        return desk.find_all(most, feed.take_text())
    if call == 2:
        return desk.tell_line(feed.take_whole())
    if call == 3:
        return desk.tell_number(feed.take_text())
    if call == 4:
        return desk.tell_value(feed.take_whole())
    if call == 5:
        return desk.tell_best(feed.take_whole())
    if call == 6:
        return desk.tell_sums()
    if call == 7:
        return desk.tell_table()
    if call == 8:
        most = feed.take_whole()
        line = feed.take_text()
        return desk.judge(most, line, feed.take_row())
    raise ValueError("there is no call with this number")
