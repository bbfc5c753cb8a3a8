"""The call judge: whether a list is the table of all that comes of a position."""

import unittest

from halls import HUNTED, HUNTED_LINE, HUNTED_TABLE, SEATED, SEATED_LINE, SEATED_TABLE
from helper import (ON_WALL, ask, best, blank, find, in_lanes, judge, lanes, no, pos, rules, spot, sums, table,
                    text_told, value, world)

CASES = ((SEATED, SEATED_LINE, SEATED_TABLE), (HUNTED, HUNTED_LINE, HUNTED_TABLE), (*lanes(3), [0] * 18))


def judged(text, line, told, most=200):
    return ask(rules(text), judge(line, told, most))[1]


class JudgedTest(unittest.TestCase):
    """E4: a table is judged right just if it's the values."""

    def test_the_table_that_table_tells(self):
        for text, line, right in CASES:
            told = ask(rules(text), find(line), table())[2]
            self.assertEqual(told, [0, len(right), *right])
            self.assertEqual(judged(text, line, told[2:]), [1])
            self.assertEqual(judged(text, line, told), [0])

    def test_one_position(self):
        text = world(blank(5, 5))
        for told in ([], [0], [1], [2], [3], [1, 0], [1, 1], [0, 1]):
            self.assertEqual(judged(text, spot(5, 5, "h", h="a1"), told), [1 if told == [1] else 0])
            self.assertEqual(judged(text, spot(5, 5, "h", k="a1"), told), [1 if told == [2] else 0])

    def test_too_short_too_long_empty(self):
        for text, line, right in CASES:
            for told in ([], right[:-1], right[1:], right[:1], right + [0], right + right[-1:], [0] + right,
                         right + right, right + [0] * (1000 - len(right))):
                self.assertEqual(judged(text, line, told), [0])

    def test_one_number_differs(self):
        for text, line, right in CASES:
            for at in (0, 1, len(right) // 2, len(right) - 1):
                for number in (0, 1, 2, 3, right[at] + 1, right[at] + 2, max(0, right[at] - 2), 2147483647):
                    told = right[:at] + [number] + right[at + 1:]
                    self.assertEqual(judged(text, line, told), [1 if number == right[at] else 0])

    def test_every_place_counts(self):
        for at in range(len(SEATED_TABLE)):
            told = list(SEATED_TABLE)
            told[at] += 2
            self.assertEqual(judged(SEATED, SEATED_LINE, told), [0])

    def test_the_order_counts(self):
        self.assertEqual(judged(SEATED, SEATED_LINE, SEATED_TABLE[::-1]), [0])
        self.assertEqual(judged(SEATED, SEATED_LINE, sorted(SEATED_TABLE)), [0])

    def test_the_table_of_another_position(self):
        text, line = SEATED, SEATED_LINE
        count = len(SEATED_TABLE)
        lines = [text_told(answer) for answer in ask(rules(text), find(line), *[pos(i) for i in range(count)])[2:]]
        tables = [ask(rules(text), find(each), table())[2][2:] for each in lines]
        for number in (1, 3, 9, 21, 34):
            asked = ask(rules(text), *[judge(lines[number], told) for told in tables])[1:]
            self.assertEqual(asked, [[1 if told == tables[number] else 0] for told in tables])
            self.assertIn([0], asked)

    def test_as_many_as_most(self):
        self.assertEqual(judged(*lanes(10), [0] * 200, 200), [1])
        self.assertEqual(judged(*lanes(3), [0] * 18, 18), [1])
        self.assertEqual(judged(*lanes(3), [0] * 17, 18), [0])

    def test_nothing_behind_the_answer(self):
        self.assertEqual(ask(rules(SEATED), judge(SEATED_LINE, SEATED_TABLE), judge(SEATED_LINE, [])), [[0], [1], [0]])


class RefusalsTest(unittest.TestCase):
    """The order is: no rules, a line at fault, a wrong most, too many positions; the list is asked last."""

    def test_no_rules(self):
        line = lanes(3)[1]
        for most in (0, 1, 17, 18, 200, 201):
            for told in ([], [0] * 18):
                asked = ask(judge(line, told, most), judge("", told, most), judge("x" * 1000, told, most))
                self.assertEqual(asked, [[-3]] * 3)
        self.assertEqual(ask(rules("t"), judge(line, [0] * 18)), [[-6, 1, 1], [-3]])

    def test_a_line_at_fault(self):
        text, line = lanes(3)
        for most in (18, 200):
            self.assertEqual(judged(text, line + "h", [0] * 18, most), [-5, 1, len(line)])
            self.assertEqual(judged(text, "", [], most), [-5, 1, 0])
            self.assertEqual(judged(text, ON_WALL, [0] * 18, most), [-5, 2, ON_WALL.index("K")])
            self.assertEqual(judged(text, "h" * 1000, [0] * 18, most), [-5, 1, 13])

    def test_a_line_at_fault_before_a_wrong_most(self):
        text, line = lanes(3)
        for most in (0, 201, 2147483647):
            self.assertEqual(judged(text, line + "h", [0] * 18, most), [-5, 1, len(line)])
            self.assertEqual(judged(text, ON_WALL, [], most), [-5, 2, ON_WALL.index("K")])

    def test_a_line_at_fault_before_too_many(self):
        """The line would tell of a position of which too many come, but for its fault."""
        text, line = lanes(11)
        self.assertEqual(judged(text, line + " ", [0] * 242), [-5, 1, len(line)])
        self.assertEqual(judged(text, ON_WALL, [0] * 242, 1), [-5, 2, ON_WALL.index("K")])

    def test_a_wrong_most(self):
        text, line = lanes(3)
        for most in (0, 201, 1000, 2147483647):
            self.assertEqual(judged(text, line, [0] * 18, most), [-1])
            self.assertEqual(judged(text, line, [], most), [-1])

    def test_a_wrong_most_before_too_many(self):
        text, line = lanes(11)
        self.assertEqual([judged(text, line, [0] * 242, most) for most in (0, 201, 200, 1)], [[-1], [-1], [-9], [-9]])

    def test_too_many(self):
        text, line = lanes(3)
        for told in ([0] * 18, [0] * 17, [], [1]):
            self.assertEqual([judged(text, line, told, most) for most in (1, 16, 17)], [[-9]] * 3)
        self.assertEqual(judged(*lanes(11), [0] * 200), [-9])


class HeldTest(unittest.TestCase):
    """What the object holds doesn't matter and stays."""

    def test_nothing_is_held(self):
        asks = [pos(0), no(SEATED_LINE), value(0), best(0), sums(), table()]
        asked = ask(rules(SEATED), judge(SEATED_LINE, SEATED_TABLE), *asks, judge(SEATED_LINE, []), *asks)
        self.assertEqual(asked, [[0], [1], *[[-3]] * 6, [0], *[[-3]] * 6])

    def test_nothing_is_held_after_a_refusal(self):
        asks = [pos(0), no(SEATED_LINE), value(0), best(0), sums(), table()]
        for refused in (judge("", []), judge(SEATED_LINE, [], 0), judge(SEATED_LINE, [], 34)):
            asked = ask(rules(SEATED), refused, *asks, judge(SEATED_LINE, SEATED_TABLE))
            self.assertLess(asked[1][0], 0)
            self.assertEqual(asked[2:], [*[[-3]] * 6, [1]])

    def test_what_is_held_stays(self):
        text, line = lanes(3)
        other = in_lanes("h", "a5", "")
        asks = [pos(0), pos(17), pos(18), no(line), no(other), value(3), best(3), sums(), table()]
        before = ask(rules(text), find(line), *asks)[2:]
        for call, answer in ((judge(other, [1]), [1]), (judge(other, [0]), [0]), (judge(line, [0] * 18), [1]),
                             (judge(line, []), [0]), (judge("", []), [-5, 1, 0]), (judge(other, [1], 0), [-1]),
                             (judge(line, [], 17), [-9])):
            asked = ask(rules(text), find(line), call, *asks)
            self.assertEqual(asked[2], answer)
            self.assertEqual(asked[3:], before)

    def test_what_is_held_does_not_matter(self):
        text, line = lanes(3)
        other = in_lanes("h", "a5", "")
        asked = ask(rules(text), find(other), judge(line, [0] * 18), judge(line, [1]), judge(other, [1]),
                    judge(line, [0] * 18, 17), find(line), judge(other, [1]), judge(other, [0] * 18))
        self.assertEqual(asked, [[0], [1], [1], [0], [1], [-9], [18], [1], [0]])

    def test_the_rules_of_now_count(self):
        text, line = lanes(2)
        walled = text.replace("..###########\n#############\n..#", ".############\n#############\n..#")
        asked = ask(rules(text), judge(line, [0] * 4), rules(walled), judge(line, [0] * 4), judge(line, [2]),
                    rules("t"), judge(line, [2]))
        self.assertEqual(asked, [[0], [1], [0], [0], [1], [-6, 1, 1], [1]])


if __name__ == "__main__":
    unittest.main()
