"""The call value: who a position is sure for, and in how many."""

import unittest

from helper import ask, blank, ending, find, in_lanes, lanes, rules, spot, value, world

HUNTERS, KINGS_SIDE, NOBODY = 0, 1, 2


def first_value(text, line):
    return ending(text, line)[1][0]


class OverTest(unittest.TestCase):
    """Positions that are over by themselves: one position comes, and it is sure for somebody in 0."""

    def over(self, who, text, line):
        with self.subTest(line=line):
            self.assertEqual(ending(text, line), ([line], [(who, 0)]))

    def test_the_king_is_taken(self):
        for turn in "hk":
            self.over(HUNTERS, world(blank(5, 5)), spot(5, 5, turn, h="a1 c3", m="d4"))
            self.over(HUNTERS, world(blank(5, 5)), spot(5, 5, turn))

    def test_the_king_is_on_the_goal(self):
        ground = ["X....", ".....", "..X..", ".....", "....."]
        for turn in "hk":
            for name in ("a1", "c1", "e1", "e3", "e5", "b5", "a5", "a4"):
                self.over(KINGS_SIDE, world(ground), spot(5, 5, turn, h="d4 b2", k=name))
            for name in ("a5", "c3"):
                self.over(KINGS_SIDE, world(ground, goal="exits"), spot(5, 5, turn, h="d4 b2", k=name))

    def test_exits_and_edge_are_no_goal_by_each_other(self):
        inner = ["#####", "###.#", "#.X##", "#####", "#####"]
        line = spot(5, 5, "k", h="d4", k="c3")
        self.assertEqual(ending(world(inner), line)[0], [line, spot(5, 5, "h", h="d4", k="b3")])
        edge = ["..#..", "#####", "##.##", "#####", "####X"]
        line = spot(5, 5, "h", h="a5", k="d5")
        self.assertEqual(len(ending(world(edge, goal="exits"), line)[0]), 4)

    def test_the_side_to_move_has_no_move(self):
        ground = ["#####", "#.#.#", "#####", "..#.#", "####X"]
        self.over(HUNTERS, world(ground), spot(5, 5, "k", h="a2", k="b4"))
        self.over(HUNTERS, world(ground), spot(5, 5, "k", h="a2", m="d4", k="b4"))
        self.over(KINGS_SIDE, world(ground), spot(5, 5, "h", h="d4", k="b4"))
        self.over(KINGS_SIDE, world(ground), spot(5, 5, "h", m="a2", k="b4"))

    def test_a_taken_king_goes_before_a_side_without_a_move(self):
        ground = ["#####", "#.#.#", "#####", "..#.#", "####X"]
        self.over(HUNTERS, world(ground), spot(5, 5, "h", h="d4"))

    def test_the_goal_goes_before_a_side_without_a_move(self):
        self.over(KINGS_SIDE, world(blank(5, 5)), spot(5, 5, "k", h="a2 b1", k="a1"))


class SureTest(unittest.TestCase):
    def test_a_king_who_steps_to_his_exit(self):
        """He needs as many moves of his own as he has cells to go, and the hunter, elsewhere, moves between."""
        ground = ["#######", ".....X#", "#######", "...####", "#######"]
        text = world(ground, goal="exits", king="steps bare two")
        lines, values = ending(text, spot(7, 5, "k", h="a2", k="c4"))
        expected = {}
        for hunter in ("a2", "b2", "c2"):
            for cells, name in enumerate(("f4", "e4", "d4", "c4", "b4", "a4")):
                expected[spot(7, 5, "k", h=hunter, k=name)] = (KINGS_SIDE, max(0, 2 * cells - 1))
                expected[spot(7, 5, "h", h=hunter, k=name)] = (KINGS_SIDE, 2 * cells)
        self.assertEqual(values[0], (KINGS_SIDE, 5))
        self.assertGreater(len(lines), 30)
        self.assertEqual(values, [expected[line] for line in lines])

    def test_a_king_who_slides_is_there_at_once(self):
        text = world(["#######", ".....X#", "#######", "...####", "#######"], goal="exits")
        self.assertEqual(first_value(text, spot(7, 5, "k", h="a2", k="a4")), (KINGS_SIDE, 1))
        self.assertEqual(first_value(text, spot(7, 5, "h", h="a2", k="a4")), (KINGS_SIDE, 2))

    def test_the_kings_side_without_a_move_after_a_hunters_move(self):
        ground = ["####X", "#####", "...##", "##.##", "##.#."]
        lines, values = ending(world(ground, goal="exits"), spot(5, 5, "h", h="c1 a3", m="b3", k="e1"))
        self.assertEqual(lines[2], spot(5, 5, "k", h="c3 a3", k="e1"))
        self.assertEqual((values[0], values[2]), ((HUNTERS, 1), (HUNTERS, 0)))

    def test_the_king_taken_at_once(self):
        ground = ["####X", "#####", "...##", "##.##", "##.#."]
        lines, values = ending(world(ground, goal="exits"), spot(5, 5, "h", h="c1 a3", k="b3"))
        self.assertEqual(lines[2], spot(5, 5, "k", h="c3 a3"))
        self.assertEqual((values[0], values[2]), ((HUNTERS, 1), (HUNTERS, 0)))

    def test_nobody_can_make_sure(self):
        text, line = lanes(5)
        lines, values = ending(text, line)
        self.assertEqual(values, [(NOBODY, 0)] * 50)

    def test_the_greatest_of_the_kings_sides(self):
        """a1-a2 lets b1-a1 shut both hunters in; a3-a2 only leaves the king two moves, over b4 to b5."""
        ground = ["..##X", "#.S##", ".####", ".##..", "..#XX"]
        text = world(ground, king="slides armed four", seat="passed all", exits="all")
        lines, values = ending(text, spot(5, 5, "h", h="a1 a3", m="b1", k="c4"))
        self.assertEqual(lines[1:3], [spot(5, 5, "k", h="a2 a3", m="b1", k="c4"),
                                      spot(5, 5, "k", h="a1 a2", m="b1", k="c4")])
        self.assertEqual(values[:3], [(KINGS_SIDE, 4), (KINGS_SIDE, 1), (KINGS_SIDE, 3)])

    def test_the_greatest_of_the_hunters(self):
        """On d2 the king is shut in by e3-d3 at once; on d3 he keeps that hunter back for one more move."""
        ground = ["##.##", "#.#.#", "#.#..", "##.S#", "..##X"]
        text = world(ground, king="slides armed four", seat="barred quiet", exits="men")
        lines, values = ending(text, spot(5, 5, "k", h="b4 e3 c2", k="d4"))
        self.assertEqual(lines[1:3], [spot(5, 5, "h", h="b4 e3 c2", k="d2"), spot(5, 5, "h", h="b4 e3 c2", k="d3")])
        self.assertEqual(values[:3], [(HUNTERS, 4), (HUNTERS, 1), (HUNTERS, 3)])

    def test_one_move_that_is_sure_for_nobody_is_enough_to_hold(self):
        """The hunter on d4 may step out of the king's way, but another one has moves enough."""
        ground = ["#######", "....X##", "###.###", "..###..", "#######"]
        text = world(ground, goal="exits", king="steps bare two")
        lines, values = ending(text, spot(7, 5, "h", h="d4 a2", m="f2", k="c4"))
        self.assertEqual(lines[1:3], [spot(7, 5, "k", h="d4 b2", m="f2", k="c4"),
                                      spot(7, 5, "k", h="d3 a2", m="f2", k="c4")])
        self.assertEqual(values[:3], [(NOBODY, 0), (NOBODY, 0), (KINGS_SIDE, 3)])


class RefusalsTest(unittest.TestCase):
    def test_nothing_held_and_no_such_number(self):
        text, line = lanes(3)
        asked = ask(value(0), rules(text), value(0), value(99), find(line, 0), value(0),
                    find(line), value(17), value(18), value(2147483647))
        self.assertEqual(asked, [[-3], [0], [-3], [-3], [-1], [-3], [18], [0, 2, 0], [-2], [-2]])

    def test_the_value_of_each_number_is_that_of_its_line(self):
        text, line = lanes(2)
        self.assertEqual(first_value(text, in_lanes("k", "b5", "")), (HUNTERS, 0))
        self.assertEqual(first_value(text, line), (NOBODY, 0))


if __name__ == "__main__":
    unittest.main()
