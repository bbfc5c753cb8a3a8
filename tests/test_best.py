"""The call best: the best move of a position, whom it takes, and whether it's over by it."""

import unittest

from halls import CROSS, LANE
from helper import (ask, best, best_told, blank, ending, find, in_lanes, judge, lanes, no, pos, put, rules, spot,
                    text_told, value, world)

STEPPING = "steps bare two"
# The king steps along his lane to the exit on f4; the hunter's lane is elsewhere.
TO_EXIT = ["#######", ".....X#", "#######", "...####", "#######"]


def first_best(text, line):
    """The best move of a position: the line it comes to, where it begins and ends, over or not, whom it takes."""
    later, begin, end, over, taken = best_told(ask(rules(text), find(line), best(0))[2])
    return text_told(ask(rules(text), find(line), pos(later))[2]), begin, end, over, taken


class ChoiceTest(unittest.TestCase):
    """Which move is best."""

    def best(self, text, line, move, worth):
        """Whether this is the best move, and comes to a position of this value."""
        later, begin, end = best_told(ask(rules(text), find(line), best(0))[2])[:3]
        self.assertEqual(f"{begin}-{end}", move)
        self.assertEqual(ending(text, line)[1][later], worth)

    def test_the_first_of_several_that_are_as_good(self):
        """The king gets to the edge on d1, a4, g4 and d7, as far as these aren't walls; d2 comes before a4."""
        ground = ["###.###", "###.###", "###.###", ".......", "###.###", "###.###", "..#.###"]
        line = spot(7, 7, "k", h="a1", k="d4")
        self.best(world(ground), line, "d4-d1", (1, 0))
        self.best(world(put(ground, d1="#")), line, "d4-a4", (1, 0))
        self.best(world(put(ground, d1="#", a4="#")), line, "d4-g4", (1, 0))
        self.best(world(put(ground, d1="#", a4="#", g4="#")), line, "d4-d7", (1, 0))

    def test_the_quickest_for_who_is_sure_and_to_move(self):
        """From c4 the king gets there by b4 too, but later."""
        self.best(world(TO_EXIT, goal="exits", king=STEPPING), spot(7, 5, "k", h="a2", k="c4"), "c4-d4", (1, 4))
        self.best(world(TO_EXIT, goal="exits", king=STEPPING), spot(7, 5, "k", h="a2", k="a4"), "a4-b4", (1, 8))

    def test_sure_for_the_other_and_all_moves_as_good(self):
        text = world(TO_EXIT, goal="exits", king=STEPPING)
        self.best(text, spot(7, 5, "h", h="b2", k="c4"), "b2-a2", (1, 5))
        self.best(text, spot(7, 5, "h", h="a2", k="c4"), "a2-b2", (1, 5))

    def test_the_slowest_for_hunters_who_lose(self):
        """By a1-a2 they'd be shut in at once, as test_values has it."""
        ground = ["..##X", "#.S##", ".####", ".##..", "..#XX"]
        text = world(ground, king="slides armed four", seat="passed all", exits="all")
        self.best(text, spot(5, 5, "h", h="a1 a3", m="b1", k="c4"), "a3-a2", (1, 3))

    def test_the_slowest_for_a_king_who_loses(self):
        """On d2 he'd be shut in at once, as test_values has it."""
        ground = ["##.##", "#.#.#", "#.#..", "##.S#", "..##X"]
        text = world(ground, king="slides armed four", seat="barred quiet", exits="men")
        self.best(text, spot(5, 5, "k", h="b4 e3 c2", k="d4"), "d4-d3", (0, 3))

    def test_hunters_who_are_sure(self):
        """c1-c2 comes first, but only c1-c3 takes the king."""
        text = world(LANE, goal="exits")
        self.best(text, spot(5, 5, "h", h="c1 a3", k="b3"), "c1-c3", (0, 0))

    def test_the_first_that_is_sure_for_nobody(self):
        """The hunter on d2 must not step out of the king's way, though that move comes first."""
        ground = ["#######", "..###..", "###.###", "....X##", "#######"]
        text = world(ground, goal="exits", king=STEPPING)
        self.best(text, spot(7, 5, "h", h="d2 a4", m="f4", k="c2"), "a4-b4", (2, 0))
        self.best(text, spot(7, 5, "h", h="d2 b4", m="f4", k="c2"), "b4-a4", (2, 0))

    def test_the_first_of_several_that_are_sure_for_nobody(self):
        text = lanes(5)[0]
        self.best(text, in_lanes("h", "a5", "a3"), "a5-b5", (2, 0))
        self.best(text, in_lanes("h", "c5", "a3"), "c5-a5", (2, 0))
        self.best(text, in_lanes("k", "c5", "e3"), "e3-a3", (2, 0))

    def test_nobody_goes_where_the_other_is_sure(self):
        """Every position that is sure for nobody has a best move to another one that is."""
        ground = ["#######", "..###..", "###.###", "....X##", "#######"]
        text = world(ground, goal="exits", king=STEPPING)
        line = spot(7, 5, "h", h="d2 a4", m="f4", k="c2")
        values = ending(text, line)[1]
        asked = ask(rules(text), find(line), *[best(number) for number in range(len(values))])[2:]
        nobodys = [answer for answer, worth in zip(asked, values) if worth == (2, 0)]
        self.assertGreater(len(nobodys), 5)
        self.assertEqual([values[best_told(answer)[0]] for answer in nobodys], [(2, 0)] * len(nobodys))


class ToldTest(unittest.TestCase):
    """What is told of the move."""

    def after(self, side, move, over, taken, h="", m="", k="g1", ground=CROSS, **said):
        """The only move there is: over or not by it, and whom it takes."""
        begin, end = move.split("-")
        line = spot(7, 7, side, h=h, m=m, k=k)
        gone = {sort: " ".join(c for c in cells.replace(begin, end).split() if c not in taken.split())
                for sort, cells in (("h", h), ("m", m), ("k", k))}
        comes = spot(7, 7, "k" if side == "h" else "h", **gone)
        self.assertEqual(first_best(world(ground, goal="exits", **said), line), (comes, begin, end, over, taken))

    def test_number_by_number(self):
        line = spot(5, 5, "k", h="", k="c3")
        self.assertEqual(ask(rules(world(blank(5, 5))), find(line), best(0))[2], [0, 1, 3, 28, 2, 2])
        line = spot(7, 7, "h", h="d3 b4 f4 d6", m="c4 e4 d5", k="g1")
        told = ask(rules(world(CROSS, goal="exits")), find(line), best(0))[2]
        self.assertEqual(told, [0, 1, 6, 29, 42, 3, 41, 43, 55])

    def test_three_men(self):
        self.after("h", "d3-d4", 3, "c4 e4 d5", h="d3 b4 f4 d6", m="c4 e4 d5")

    def test_three_hunters(self):
        self.after("k", "d3-d4", 3, "c4 e4 d5", h="c4 e4 d5", m="d3 b4 f4 d6")
        self.after("k", "d3-d4", 3, "c4 e4 d5", h="c4 e4 d5", m="b4 f4 d6", k="d3")

    def test_two_men(self):
        self.after("h", "d3-d4", 3, "c4 d5", h="d3 b4 d6 f4", m="c4 d5", ground=put(CROSS, e4="#"))

    def test_the_king_and_two_men(self):
        self.after("h", "d3-d4", 1, "c4 e4 d5", h="d3 b4 f4 d6", m="c4 e4", k="d5")
        self.after("h", "d3-d4", 1, "c4 e4 d5", h="d3 b4 f4 d6", m="d5 e4", k="c4")

    def test_the_king_alone(self):
        self.after("h", "d3-d4", 1, "d5", h="d3 d6", k="d5")
        self.after("h", "d3-d4", 1, "d5", h="d3 d6", m="g1", k="d5")
        four = put(CROSS, c5=".", e5=".", c4="#", e4="#", b4="#", f4="#")
        self.after("h", "d3-d4", 1, "d5", h="d3 d6 c5 e5", k="d5", ground=four, king="slides bare four")

    def test_none(self):
        self.after("h", "d3-d4", 3, "", h="d3 b4", ground=put(CROSS, c4="#", e4="#", d5="#"))

    def test_one_and_it_goes_on(self):
        """The man on a7 still has a move when the one on d5 is taken."""
        ground = put(CROSS, c4="#", e4="#", a7=".", b7=".")
        self.after("h", "d3-d4", 0, "d5", h="d3 d6", m="d5 a7", ground=ground)

    def test_the_goal(self):
        self.after("k", "g1-g3", 2, "", h="d3 b4", k="g1", ground=put(CROSS, g3="X", g2="."))

    def test_the_goal_goes_before_a_side_without_a_move(self):
        self.after("k", "g1-g2", 2, "", k="g1", ground=put(CROSS, g2="X"))

    def test_the_goal_and_one_taken(self):
        """The king comes to an exit beside a hunter who has a man behind him."""
        self.after("k", "d3-d4", 2, "c4", h="c4", m="b4", k="d3", ground=put(CROSS, d4="X", d5="#"))

    def test_no_move_left_for_the_hunters(self):
        self.after("k", "d3-d4", 3, "", m="d3", h="b4", ground=put(CROSS, c4="#", e4="#", d5="#"))

    def test_of_every_number(self):
        text, line = lanes(3)
        lines = ending(text, line)[0]
        asked = ask(rules(text), find(line), *[best(number) for number in range(18)])[2:]
        first_other = {"a": "b", "b": "a", "c": "a"}
        for hunter in "abc":
            for king in "abc":
                told = asked[lines.index(in_lanes("h", hunter + "5", king + "3"))]
                later = in_lanes("k", first_other[hunter] + "5", king + "3")
                self.assertEqual(best_told(told), (lines.index(later), hunter + "5", first_other[hunter] + "5", 0, ""))
                told = asked[lines.index(in_lanes("k", hunter + "5", king + "3"))]
                later = in_lanes("h", hunter + "5", first_other[king] + "3")
                self.assertEqual(best_told(told), (lines.index(later), king + "3", first_other[king] + "3", 0, ""))

    def test_the_first_cell_and_the_last(self):
        ground = put(["#" * 13] * 13, a1=".", b1=".", a2=".", m13=".", l13=".", f6="X", c3=".", d3=".")
        for begin, end in (("b1", "a1"), ("l13", "m13"), ("m13", "l13")):
            line = spot(13, 13, "k", h="c3", k=begin)
            told = ask(rules(world(ground, goal="exits")), find(line), best(0))[2]
            self.assertEqual(best_told(told)[1:], (begin, end, 0, ""))


class RefusalsTest(unittest.TestCase):
    def over(self, text, line):
        with self.subTest(line=line):
            asked = ask(rules(text), find(line), best(0), best(1), value(0))
            self.assertEqual([answer[0] for answer in asked], [0, 1, -4, -2, 0])
            self.assertEqual(asked[2:4], [[-4], [-2]])

    def test_the_king_is_taken(self):
        for turn in "hk":
            self.over(world(blank(5, 5)), spot(5, 5, turn, h="a1 c3", m="d4"))
            self.over(world(blank(5, 5)), spot(5, 5, turn))

    def test_the_king_is_on_the_goal(self):
        for turn in "hk":
            self.over(world(blank(5, 5)), spot(5, 5, turn, h="d4 b2", k="a3"))
            self.over(world(put(blank(5, 5), c3="X"), goal="exits"), spot(5, 5, turn, h="d4 b2", k="c3"))

    def test_the_side_to_move_has_no_move(self):
        shut = world(["#####", "#.#.#", "#####", "..#.#", "####X"])
        self.over(shut, spot(5, 5, "k", h="a2", k="b4"))
        self.over(shut, spot(5, 5, "h", h="d4", k="b4"))
        self.over(shut, spot(5, 5, "h", m="a2", k="b4"))

    def test_later_numbers(self):
        """Of a king alone in the middle: his moves end it all, by the goal or as no hunter is there to move."""
        asked = ask(rules(world(blank(5, 5))), find(spot(5, 5, "k", k="c3")), *[best(number) for number in range(10)])
        self.assertEqual(asked, [[0], [9], [0, 1, 3, 28, 2, 2], *[[-4]] * 8, [-2]])

    def test_no_such_number(self):
        text, line = lanes(3)
        asked = ask(rules(text), find(line), best(17), best(18), best(19), best(2147483647))
        self.assertEqual(asked[2][0], 0)
        self.assertEqual(asked[3:], [[-2]] * 3)

    def test_nothing_is_held(self):
        text, line = lanes(3)
        asked = ask(best(0), best(99), rules(text), best(0), best(99), find(line, 3), best(0), judge(line, []), best(0),
                    find(line), best(0), rules(text), best(0), best(99))
        self.assertEqual([answer[0] for answer in asked], [-3, -3, 0, -3, -3, -9, -3, 0, -3, 18, 0, 0, -3, -3])

    def test_refusals_change_nothing(self):
        text, line = lanes(3)
        over = spot(5, 5, "k", k="c3")
        looks = [best(0), pos(0), value(0), no(line)]
        asked = ask(rules(text), find(line), *looks, best(18), *looks)
        self.assertEqual(asked[2:6], asked[7:])
        looks = [best(0), pos(8), value(8), no(over)]
        asked = ask(rules(world(blank(5, 5))), find(over), *looks, best(1), *looks)
        self.assertEqual(asked[2:6], asked[7:])


if __name__ == "__main__":
    unittest.main()
