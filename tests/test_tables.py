"""The calls sums and table."""

import unittest

from halls import HUNTED, HUNTED_LINE, HUNTED_TABLE, SEATED, SEATED_LINE, SEATED_TABLE
from helper import (ask, blank, ending, find, in_lanes, judge, lanes, list_told, no, pos, rules, spot, sums, table,
                    value, world)

# The king has no move, so that it's over by any move of the hunter's.
SHUT = world(["...##", "#####", "##.##", "#####", "####X"], goal="exits")
SHUT_LINE = spot(5, 5, "h", h="a5", k="c3")
# The king steps along his lane to the exit on e4; the hunter goes to and fro in another lane.
TO_EXIT = world(["#######", "#...X##", "#######", "#..####", "#######"], goal="exits", king="steps bare two")


def told(text, line, call):
    return list_told(ask(rules(text), find(line), call)[2])


def far_from_exit(lines):
    """The values in TO_EXIT: two moves for each cell that the king has to go, one less if he is to move."""
    worth = {}
    for hunter in ("b2", "c2"):
        for cells, name in enumerate(("e4", "d4", "c4", "b4")):
            worth[spot(7, 5, "h", h=hunter, k=name)] = 2 * cells
            worth[spot(7, 5, "k", h=hunter, k=name)] = 2 * cells - 1
    return [worth[line] for line in lines]


class SumsTest(unittest.TestCase):
    def test_one_position(self):
        for turn in "hk":
            self.assertEqual(told(world(blank(5, 5)), spot(5, 5, turn, h="a1"), sums()), [1, 0, 0, 0, 0, 0, 0])
            self.assertEqual(told(world(blank(5, 5)), spot(5, 5, turn, k="a1"), sums()), [0, 1, 0, 0, 0, 0, 0])

    def test_nobodys_alone(self):
        self.assertEqual(told(*lanes(5), sums()), [0, 0, 50, 0, 0, 0, 0])

    def test_the_kings_sides_alone(self):
        self.assertEqual(told(world(blank(5, 5)), spot(5, 5, "k", k="c3"), sums()), [0, 9, 0, 0, 0, 1, 0])
        line = spot(7, 5, "k", h="b2", k="c4")
        lengths = far_from_exit(ending(TO_EXIT, line)[0])
        self.assertNotEqual(lengths[0], 6)
        self.assertEqual(told(TO_EXIT, line, sums()), [0, len(lengths), 0, 0, 0, 6, lengths.index(6)])

    def test_the_hunters_alone(self):
        self.assertEqual(told(SHUT, SHUT_LINE, sums()), [3, 0, 0, 1, 0, 0, 0])

    def test_all_three(self):
        self.assertEqual(told(SEATED, SEATED_LINE, sums()), [3, 11, 21, 1, 21, 3, 10])
        self.assertEqual(told(HUNTED, HUNTED_LINE, sums()), [12, 7, 21, 7, 27, 3, 16])

    def test_the_first_of_several_that_are_the_longest(self):
        self.assertEqual([number for number, worth in enumerate(SEATED_TABLE) if worth == 3], [21, 25])
        self.assertEqual([number for number, worth in enumerate(SEATED_TABLE) if worth == 8], [10, 12, 15, 33])
        self.assertEqual(told(SEATED, SEATED_LINE, sums())[3:], [1, 21, 3, 10])

    def test_seven_numbers_behind_their_count(self):
        self.assertEqual(ask(rules(SEATED), find(SEATED_LINE), sums())[2], [0, 7, 3, 11, 21, 1, 21, 3, 10])

    def test_that_of_what_is_held_now(self):
        text, line = lanes(3)
        asked = ask(rules(text), find(line), sums(), find(in_lanes("h", "a5", "")), sums(), find(line, 3), sums())
        self.assertEqual(asked, [[0], [18], [0, 7, 0, 0, 18, 0, 0, 0, 0], [1], [0, 7, 1, 0, 0, 0, 0, 0, 0],
                                 [-9], [0, 7, 1, 0, 0, 0, 0, 0, 0]])


class TableTest(unittest.TestCase):
    def test_one_position(self):
        for turn in "hk":
            self.assertEqual(told(world(blank(5, 5)), spot(5, 5, turn, h="a1"), table()), [1])
            self.assertEqual(told(world(blank(5, 5)), spot(5, 5, turn, k="a1"), table()), [2])

    def test_the_hunters(self):
        self.assertEqual(told(SHUT, SHUT_LINE, table()), [3, 1, 1])

    def test_nobodys_are_0(self):
        self.assertEqual(told(*lanes(5), table()), [0] * 50)

    def test_the_kings_sides(self):
        self.assertEqual(told(world(blank(5, 5)), spot(5, 5, "k", k="c3"), table()), [4] + [2] * 8)
        line = spot(7, 5, "k", h="b2", k="c4")
        self.assertEqual(told(TO_EXIT, line, table()),
                         [2 + 2 * count for count in far_from_exit(ending(TO_EXIT, line)[0])])

    def test_all_three(self):
        self.assertEqual(told(SEATED, SEATED_LINE, table()), SEATED_TABLE)
        self.assertEqual(told(HUNTED, HUNTED_LINE, table()), HUNTED_TABLE)

    def test_the_values_in_the_order_of_numbers(self):
        for text, line in ((SEATED, SEATED_LINE), (HUNTED, HUNTED_LINE)):
            numbers = told(text, line, table())
            asked = ask(rules(text), find(line), *[value(number) for number in range(len(numbers))])
            for (who, count), number in zip([answer[1:] for answer in asked[2:]], numbers, strict=True):
                self.assertEqual(number, {0: 1 + 2 * count, 1: 2 + 2 * count, 2: 0}[who])

    def test_the_count_before_it(self):
        asked = ask(rules(lanes(2)[0]), find(lanes(2)[1]), table())
        self.assertEqual(asked[2], [0, 4, 0, 0, 0, 0])
        asked = ask(rules(lanes(10)[0]), find(lanes(10)[1]), table())
        self.assertEqual(asked[2], [0, 200, *[0] * 200])

    def test_that_of_what_is_held_now(self):
        text, line = lanes(2)
        asked = ask(rules(text), find(line), table(), find(in_lanes("h", "a5", "")), table(), find(line, 3), table())
        self.assertEqual(asked, [[0], [4], [0, 4, 0, 0, 0, 0], [1], [0, 1, 1], [-9], [0, 1, 1]])


class RefusalsTest(unittest.TestCase):
    def test_nothing_is_held(self):
        text, line = lanes(3)
        for call in (sums(), table()):
            asked = ask(call, rules(text), call, rules("t"), call, find(line, 3), call, judge(line, [0] * 18), call,
                        find(line), call, rules(text), call)
            self.assertEqual([answer[0] for answer in asked], [-3, 0, -3, -6, -3, -9, -3, 1, -3, 18, 0, 0, -3])
            self.assertEqual([asked[n] for n in (0, 2, 4, 6, 8, 12)], [[-3]] * 6)

    def test_refused_rules_leave_what_is_held(self):
        asked = ask(rules(SEATED), find(SEATED_LINE), rules("t"), sums(), table())
        self.assertEqual(asked[2], [-6, 1, 1])
        self.assertEqual(list_told(asked[3]), [3, 11, 21, 1, 21, 3, 10])
        self.assertEqual(list_told(asked[4]), SEATED_TABLE)

    def test_they_change_nothing(self):
        looks = [pos(3), value(10), no(SEATED_LINE), sums(), table()]
        asked = ask(rules(SEATED), find(SEATED_LINE), *looks, *looks)
        self.assertEqual(asked[2:7], asked[7:])


if __name__ == "__main__":
    unittest.main()
