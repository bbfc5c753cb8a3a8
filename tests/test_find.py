"""The calls find, pos and no."""

import unittest

from helper import ON_WALL, ask, blank, ending, find, in_lanes, lanes, no, pos, rules, spot, text_told, value, world


class CountTest(unittest.TestCase):
    def test_as_many_as_most_and_one_more(self):
        for columns in (3, 5, 7, 9):
            text, line = lanes(columns)
            count = 2 * columns ** 2
            asked = ask(rules(text), find(line, count), find(line, count + 1), find(line, count - 1))
            self.assertEqual(asked, [[0], [count], [count], [-9]])

    def test_just_200(self):
        text, line = lanes(10)
        asked = ask(rules(text), find(line, 200), find(line, 199), pos(199), pos(200))
        self.assertEqual(asked[:3], [[0], [200], [-9]])
        self.assertEqual(asked[3][0], 0)
        self.assertEqual(asked[4], [-2])

    def test_more_than_200(self):
        text, line = lanes(11)
        self.assertEqual(ask(rules(text), find(line, 200)), [[0], [-9]])

    def test_a_ground_full_of_moves(self):
        text = world(blank(13, 13))
        line = "/".join(["h1h1h1h1h1h1h"] * 6 + ["6K6"] + ["h1h1h1h1h1h1h"] * 6) + " h"
        self.assertEqual(ask(rules(text), find(line, 200)), [[0], [-9]])

    def test_one_position(self):
        text = world(blank(5, 5))
        over = spot(5, 5, "k", h="a1", k="c5")
        self.assertEqual(ask(rules(text), find(over, 1), pos(1)), [[0], [1], [-2]])
        moves = spot(5, 5, "k", h="a1", k="c3")
        self.assertEqual(ask(rules(text), find(moves, 1)), [[0], [-9]])

    def test_most_of_any_size(self):
        text, line = lanes(2)
        for most, answer in ((0, -1), (1, -9), (3, -9), (4, 4), (199, 4), (200, 4), (201, -1), (2147483647, -1)):
            self.assertEqual(ask(rules(text), find(line, most)), [[0], [answer]])


class RefusalsTest(unittest.TestCase):
    """The order is: no rules, a line at fault, a wrong most, too many positions."""

    def test_no_rules(self):
        line = lanes(3)[1]
        for most in (0, 1, 200, 201):
            self.assertEqual(ask(find(line, most), find("", most), find("x" * 1000, most)), [[-3]] * 3)

    def test_line_at_fault_before_a_wrong_most(self):
        text, line = lanes(3)
        for most in (0, 1, 200, 201, 2147483647):
            asked = ask(rules(text), find(line + "h", most), find("h" + line, most), find(ON_WALL, most))
            self.assertEqual(asked, [[0], [-5, 1, len(line)], [-5, 1, 3], [-5, 2, ON_WALL.index("K")]])

    def test_wrong_most_before_too_many(self):
        text, line = lanes(11)
        asked = ask(rules(text), find(line, 0), find(line, 201), find(line, 200), find(line, 1))
        self.assertEqual(asked, [[0], [-1], [-1], [-9], [-9]])

    def test_what_is_held_stays(self):
        text, line = lanes(3)
        looks = [pos(i) for i in range(19)] + [value(3), no(line)]
        before = ask(rules(text), find(line), *looks)
        for refused in (find(line, 0), find(line, 201), find(line, 17), find(ON_WALL), find(""), find(line + "/", 0)):
            after = ask(rules(text), find(line), refused, *looks)
            self.assertLess(after[2][0], 0)
            self.assertEqual(after[3:], before[2:])

    def test_nothing_is_held_after_a_first_refused_find(self):
        text, line = lanes(3)
        asked = ask(rules(text), find(line, 17), pos(0), no(line), value(0), find(line, 18), value(0))
        self.assertEqual([answer[0] for answer in asked], [0, -9, -3, -3, -3, 18, 0])

    def test_a_second_find_takes_the_place_of_the_first(self):
        text, line = lanes(3)
        other = in_lanes("k", "b5", "")
        asked = ask(rules(text), find(line), find(other), pos(0), pos(1), no(line), no(other))
        self.assertEqual(asked[1:3], [[18], [1]])
        self.assertEqual(text_told(asked[3]), other)
        self.assertEqual(asked[4:], [[-2], [-2], [0]])


class NumbersTest(unittest.TestCase):
    """E1: all that comes, each position once, numbered as it is found."""

    def test_to_and_fro(self):
        text, line = lanes(2)
        self.assertEqual(ending(text, line)[0], [in_lanes("h", "a5", "a3"), in_lanes("k", "b5", "a3"),
                                                 in_lanes("h", "b5", "b3"), in_lanes("k", "a5", "b3")])

    def test_the_order_of_numbers(self):
        text, line = lanes(3)
        turns = [("h", "a5", "a3"), ("k", "b5", "a3"), ("k", "c5", "a3"), ("h", "b5", "b3"), ("h", "b5", "c3"),
                 ("h", "c5", "b3"), ("h", "c5", "c3"), ("k", "a5", "b3"), ("k", "c5", "b3"), ("k", "a5", "c3"),
                 ("k", "c5", "c3"), ("k", "b5", "b3"), ("k", "b5", "c3")]
        self.assertEqual(ending(text, line)[0][:13], [in_lanes(*each) for each in turns])

    def test_found_again_both_ways(self):
        text, line = lanes(9)
        lines = ending(text, line)[0]
        self.assertEqual(len(set(lines)), 162)
        for first in (0, 81):
            asked = ask(rules(text), find(line), *[no(each) for each in lines[first:first + 81]])
            self.assertEqual(asked[2:], [[number] for number in range(first, first + 81)])

    def test_refusals_of_pos(self):
        text, line = lanes(3)
        asked = ask(pos(0), rules(text), pos(0), find(line), pos(17), pos(18), pos(2147483647))
        self.assertEqual([answer[0] for answer in asked], [-3, 0, -3, 18, 0, -2, -2])
        self.assertEqual(asked[5:], [[-2], [-2]])

    def test_refusals_of_no(self):
        text, line = lanes(3)
        self.assertEqual(ask(no(line), no(""), rules(text), no(line), no("x")), [[-3], [-3], [0], [-3], [-3]])
        asked = ask(rules(text), find(line), no(line), no(in_lanes("h", "c5", "")), no(line + " "), no(ON_WALL), no(""))
        self.assertEqual(asked[2:], [[0], [-2], [-5, 1, len(line)], [-5, 2, ON_WALL.index("K")], [-5, 1, 0]])

    def test_the_turn_tells_positions_apart(self):
        text = lanes(2)[0]
        line = in_lanes("h", "a5", "a3")
        self.assertEqual(ask(rules(text), find(line), no(line), no(in_lanes("k", "a5", "a3")))[2:], [[0], [-2]])


if __name__ == "__main__":
    unittest.main()
