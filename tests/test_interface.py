"""How calls are handed to hallends.desk.answers, and how answers are given back."""

import sys
import unittest

from hallends.desk import answers
from helper import ON_WALL, ask, blank, codes, find, lanes, no, pos, rules, rules_text, value


class Untouched(list):
    """A list that can't be changed, not for a while either."""

    def refuse(self, *_, **__):
        raise AssertionError("the list handed in is changed")

    append = extend = insert = pop = remove = clear = sort = reverse = refuse
    __setitem__ = __delitem__ = __iadd__ = __imul__ = refuse


def several_calls():
    text, line = lanes(3)
    calls = [pos(0), rules("x"), rules(text), no(line), find(line, 3), find(ON_WALL), find(line), pos(1), value(1),
             no(line), no("k"), pos(18), value(18), find(line, 0), pos(17)]
    return [number for call in calls for number in call]


class AnswersTest(unittest.TestCase):
    def test_number_by_number(self):
        text, line = lanes(2)
        second = line.replace("h12", "1h11")[:-1] + "k"
        calls = rules(text) + find(line) + pos(1) + no(second) + value(1) + value(9) + no("x") + rules("t")
        told = [1, 0, 1, 4, 2 + len(second), 0, len(second), *codes(second), 1, 1, 3, 0, 2, 0, 1, -2, 3, -5, 1, 0,
                3, -6, 1, 1]
        self.assertEqual(answers(calls), told)

    def test_single_calls(self):
        self.assertEqual(answers([0, 0]), [3, -6, 1, 0])
        self.assertEqual(answers([1, 5, 0]), [1, -3])
        self.assertEqual(answers([2, 0]), [1, -3])
        self.assertEqual(answers([3, 0]), [1, -3])
        self.assertEqual(answers([4, 0]), [1, -3])

    def test_a_refused_call_leaves_the_next_one_in_its_place(self):
        text, line = lanes(3)
        asked = ask(find(line), no(line), rules(text[:50]), rules(text), find(line[:5]), find(line, 500), find(line, 2),
                    no("h" * 900), find(line), no(line))
        self.assertEqual([answer[0] for answer in asked], [-3, -3, -6, 0, -5, -1, -9, -3, 18, 0])

    def test_what_is_handed_in_stays(self):
        calls = several_calls()
        self.assertEqual(answers(Untouched(calls)), answers(calls))
        self.assertEqual(calls, several_calls())

    def test_nothing_is_kept_from_one_time_to_the_next(self):
        first = answers(several_calls())
        self.assertEqual(answers(pos(0) + value(0)), [1, -3, 1, -3])
        self.assertEqual(answers(find(lanes(3)[1])), [1, -3])
        self.assertEqual(answers(several_calls()), first)

    def test_what_is_given_back_is_a_new_list(self):
        first = answers(several_calls())
        kept = list(first)
        first.clear()
        self.assertEqual(answers(several_calls()), kept)

    def test_whole_numbers_in_a_list(self):
        told = answers(several_calls())
        self.assertIs(type(told), list)
        self.assertEqual({type(number) for number in told}, {int})

    def test_nothing_is_nested_as_deep_as_the_input_is_long(self):
        text, line = lanes(10)
        large = rules_text(blank(13, 13), ["h" * 13] + blank(13, 10) + ["." * 6 + "K" + "." * 6, "h" * 13])
        calls = (rules(large) + find("/".join(["h" * 13] * 12 + ["6K6"]) + " k") + rules(text) + find(line)
                 + value(199) * 100 + pos(150) * 100 + rules("t" * 2000) + no("h" * 1000))
        limit = sys.getrecursionlimit()
        try:
            sys.setrecursionlimit(depth() + 40)
            told = answers(calls)
        finally:
            sys.setrecursionlimit(limit)
        self.assertEqual(told, answers(calls))

    def test_as_many_calls_as_there_may_be(self):
        text, line = lanes(10)
        calls = rules(text) + find(line) * 298
        self.assertEqual(answers(calls), [1, 0] + [1, 200] * 298)
        self.assertLessEqual(len(calls + value(0)), 30000)


def depth():
    """How many calls are within one another here."""
    frame = sys._getframe()
    count = 0
    while frame is not None:
        count += 1
        frame = frame.f_back
    return count


if __name__ == "__main__":
    unittest.main()
