"""The desk: takes a list of calls on one object and gives the list of answers."""

from hallends.endings import Ending
from hallends.lines import line_of, read_line
from hallends.reader import codes_of, text_of
from hallends.refusals import NoSuchPosition, NothingThere, Refusal, WrongMost
from hallends.rules import read_rules

GREATEST_MOST = 200


class Feed:
    """The numbers handed in, and how far they have been read."""

    def __init__(self, numbers):
        self.handed = numbers
        self.at = 0

    def has_more(self):
        return self.at < len(self.handed)

    def take_whole(self):
        """The next number."""
        number = self.handed[self.at]
        self.at += 1
        return number

    def take_text(self):
        """The next row of bytes, which has its length before it, as a text."""
        length = self.take_whole()
        codes = self.handed[self.at:self.at + length]
        self.at += length
        return text_of(codes)


class Desk:
    """The object of the calls: its rules and what it holds, None while there are none."""

    def __init__(self):
        self.hall = None
        self.ending = None

    def set_rules(self, text):
        self.hall = read_rules(text)
        self.ending = None
        return [0]

    def find_all(self, most, line):
        if self.hall is None:
            raise NothingThere()
        first = read_line(self.hall, line)
        if most < 1 or most > GREATEST_MOST:
            raise WrongMost()
        self.ending = Ending(self.hall, first, most)
        return [len(self.ending.positions)]

    def held(self):
        if self.ending is None:
            raise NothingThere()
        return self.ending

    def tell_line(self, number):
        positions = self.held().positions
        if number >= len(positions):
            raise NoSuchPosition()
        codes = codes_of(line_of(self.hall, positions[number]))
        return [0, len(codes)] + codes

    def tell_number(self, line):
        numbers = self.held().numbers
        position = read_line(self.hall, line)
        if position not in numbers:
            raise NoSuchPosition()
        return [numbers[position]]

    def tell_value(self, number):
        worth = self.held().worth
        if number >= len(worth):
            raise NoSuchPosition()
        return [0, worth[number][0], worth[number][1]]


def answers(calls):
    """For each call, in order, how many numbers are answered, then these."""
    feed = Feed(calls)
    desk = Desk()
    told = []
    while feed.has_more():
        answer = answer_call(desk, feed)
        told.append(len(answer))
        told.extend(answer)
    return told


def answer_call(desk, feed):
    try:
        return answer_or_refuse(desk, feed)
    except Refusal as e:
        return e.told


def answer_or_refuse(desk, feed):
    """Read one call whole, then carry it out, so that a refusal leaves the next call in its place."""
    call = feed.take_whole()
    if call == 0:
        return desk.set_rules(feed.take_text())
    if call == 1:
        most = feed.take_whole()
        return desk.find_all(most, feed.take_text())
    if call == 2:
        return desk.tell_line(feed.take_whole())
    if call == 3:
        return desk.tell_number(feed.take_text())
    if call == 4:
        return desk.tell_value(feed.take_whole())
    raise NotImplementedError("this call is not answered yet")
