"""How calls are handed to hallends.desk.answers, and how answers are given back."""

import sys
import unittest

from hallends.desk import answers
from helper import (ON_WALL, ask, best, blank, codes, find, judge, lanes, no, pos, rules, rules_text, sums, table,
                    value, world)


class Untouched(list):
    """A list that can't be changed, not for a while either."""

    def refuse(self, *_, **__):
        raise AssertionError("the list handed in is changed")

    append = extend = insert = pop = remove = clear = sort = reverse = refuse
    __setitem__ = __delitem__ = __iadd__ = __imul__ = refuse


def several_calls():
    text, line = lanes(3)
    right = [0] * 18
    calls = [pos(0), rules("x"), judge(line, [1]), rules(text), no(line), best(0), sums(), table(), judge(line, right),
             find(line, 3), find(ON_WALL), find(line), pos(1), value(1), no(line), no("k"), pos(18), value(18), best(1),
             best(18), sums(), table(), judge(line, right), judge(line, [3]), judge(ON_WALL, [0]), judge(line, [], 0),
             judge(line, [2147483647] * 1000, 3), find(line, 0), pos(17), table()]
    return [number for call in calls for number in call]


class AnswersTest(unittest.TestCase):
    def test_number_by_number(self):
        text, line = lanes(2)
        second = line.replace("h12", "1h11")[:-1] + "k"
        calls = rules(text) + find(line) + pos(1) + no(second) + value(1) + value(9) + no("x") + rules("t")
        told = [1, 0, 1, 4, 2 + len(second), 0, len(second), *codes(second), 1, 1, 3, 0, 2, 0, 1, -2, 3, -5, 1, 0,
                3, -6, 1, 1]
        self.assertEqual(answers(calls), told)

    def test_all_nine_calls_number_by_number(self):
        """A king alone in the middle: by any of his moves it's over, on the edge or as no hunter has a move."""
        text, line = world(blank(5, 5)), "5/5/2K2/5/5 k"
        second = "5/5/5/5/2K2 h"
        right = [4, 2, 2, 2, 2, 2, 2, 2, 2]
        calls = [0, len(text), *codes(text), 1, 9, 13, *codes(line), 2, 1, 3, 13, *codes(second), 4, 0, 5, 0, 6, 7,
                 8, 9, 13, *codes(line), 9, *right, 8, 9, 13, *codes(second), 1, 3, 5, 1, 5, 9,
                 8, 0, 0, 0, 8, 0, 13, *codes(line), 2, 4, 2, 8, 8, 13, *codes(line), 9, *right, 6]
        told = [1, 0, 1, 9, 15, 0, 13, *codes(second), 1, 1, 3, 0, 1, 1, 6, 0, 1, 3, 28, 2, 2,
                9, 0, 7, 0, 9, 0, 0, 0, 1, 0, 11, 0, 9, *right, 1, 1, 1, 0, 1, -4, 1, -2,
                3, -5, 1, 0, 1, -1, 1, -9, 9, 0, 7, 0, 9, 0, 0, 0, 1, 0]
        self.assertEqual(answers(calls), told)
        self.assertEqual(answers(Untouched(calls)), told)

    def test_behind_most_judge_hands_in_the_line_then_the_list(self):
        """Numbers of the list are taken as they are, though they'd be calls or a line's bytes elsewhere."""
        text, line = lanes(2)
        taken_wrongly = [0, 4, 0, *[0] * 12]
        asked = ask(rules(text), judge(line, [0] * 4, 4), judge(line, taken_wrongly, 4), judge(line, codes(line), 4),
                    judge(line, [], 4), sums())
        self.assertEqual(asked, [[0], [1], [0], [0], [0], [-3]])

    def test_single_calls(self):
        self.assertEqual(answers([0, 0]), [3, -6, 1, 0])
        self.assertEqual(answers([1, 5, 0]), [1, -3])
        self.assertEqual(answers([2, 0]), [1, -3])
        self.assertEqual(answers([3, 0]), [1, -3])
        self.assertEqual(answers([4, 0]), [1, -3])
        self.assertEqual(answers([5, 0]), [1, -3])
        self.assertEqual(answers([6]), [1, -3])
        self.assertEqual(answers([7]), [1, -3])
        self.assertEqual(answers([8, 5, 0, 0]), [1, -3])
        self.assertEqual(answers([8, 5, 1, 3, 2, 6, 7]), [1, -3])

    def test_a_refused_call_leaves_the_next_one_in_its_place(self):
        text, line = lanes(3)
        asked = ask(find(line), no(line), rules(text[:50]), rules(text), find(line[:5]), find(line, 500), find(line, 2),
                    no("h" * 900), find(line), no(line))
        self.assertEqual([answer[0] for answer in asked], [-3, -3, -6, 0, -5, -1, -9, -3, 18, 0])
        asked = ask(judge(line, [8] * 9), best(8), sums(), table(), rules(text), judge(line[:5], [8]),
                    judge(line, [7], 0), judge(line, [6] * 3, 9), best(0), find(line), best(18), best(0), sums())
        self.assertEqual([answer[0] for answer in asked], [-3, -3, -3, -3, 0, -5, -1, -9, -3, 18, -2, 0, 0])

    def test_what_is_handed_in_stays(self):
        calls = several_calls()
        self.assertEqual(answers(Untouched(calls)), answers(calls))
        self.assertEqual(calls, several_calls())

    def test_nothing_is_kept_from_one_time_to_the_next(self):
        first = answers(several_calls())
        self.assertEqual(answers(pos(0) + value(0) + best(0) + sums() + table()), [1, -3] * 5)
        self.assertEqual(answers(find(lanes(3)[1]) + judge(lanes(3)[1], [0] * 18)), [1, -3] * 2)
        self.assertEqual(answers(several_calls()), first)

    def test_what_is_given_back_is_a_new_list(self):
        first = answers(several_calls())
        kept = list(first)
        first.clear()
        self.assertEqual(answers(several_calls()), kept)

    def test_whole_numbers_in_a_list(self):
        told = answers(several_calls())
        self.assertIs(type(told), list)
        self.assertEqual({type(number) for number in told}, {int})

    def test_nothing_is_nested_as_deep_as_the_input_is_long(self):
        text, line = lanes(10)
        large = rules_text(blank(13, 13), ["h" * 13] + blank(13, 10) + ["." * 6 + "K" + "." * 6, "h" * 13])
        calls = (rules(large) + find("/".join(["h" * 13] * 12 + ["6K6"]) + " k") + rules(text) + find(line)
                 + value(199) * 90 + pos(150) * 90 + best(199) * 50 + table() * 10 + sums() * 10
                 + judge(line, [0] * 200) * 10 + judge(line, [0] * 1000) + rules("t" * 2000) + no("h" * 1000))
        limit = sys.getrecursionlimit()
        try:
            sys.setrecursionlimit(depth() + 40)
            told = answers(calls)
        finally:
            sys.setrecursionlimit(limit)
        self.assertEqual(told, answers(calls))

    def test_as_many_calls_as_there_may_be(self):
        text, line = lanes(10)
        calls = rules(text) + find(line) * 298
        self.assertEqual(answers(calls), [1, 0] + [1, 200] * 298)
        self.assertLessEqual(len(calls), 30000)

    def test_as_many_judgements_as_a_list_has_room_for(self):
        text, line = lanes(10)
        calls = rules(text) + judge(line, [0] * 200) * 100 + judge(line, [0] * 199) * 33
        self.assertEqual(answers(calls), [1, 0] + [1, 1] * 100 + [1, 0] * 33)
        self.assertLessEqual(len(calls), 30000)

    def test_as_many_of_each_call_as_there_may_be(self):
        text, line = lanes(10)
        for call in (best(0), best(199), sums(), table(), value(0), pos(0)):
            told = answers(rules(text) + find(line) + call * 298)
            each = answers(rules(text) + find(line) + call)[4:]
            self.assertEqual(told, [1, 0, 1, 200] + each * 298)


def depth():
    """How many calls are within one another here."""
    frame = sys._getframe()
    count = 0
    while frame is not None:
        count += 1
        frame = frame.f_back
    return count


if __name__ == "__main__":
    unittest.main()
