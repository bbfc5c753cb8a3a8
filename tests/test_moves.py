"""Moves and taking, told by the lines that come of a position, in the order of moves."""

import unittest

from halls import CROSS, LANE, WALLS
from helper import ending, put, spot, world

# The king in a cell of walls: whatever a hunter does, it's over, as the king's side has no move.
BOXED = [".......",
         ".......",
         ".......",
         "...S...",
         ".#.....",
         "#.#....",
         ".#....."]
NO_SEAT = [row.replace("S", ".") for row in BOXED]


class GoingTest(unittest.TestCase):
    """Where pieces go. Each position here is over after one move, so that all that comes is just the moves."""

    def comes(self, text, before, after, size=(7, 7)):
        """before and each of after: turn, h, m, k, told by names of cells."""
        def line(turn, h, m, k):
            return spot(*size, turn, h=h, m=m, k=k)
        lines = ending(text, line(*before))[0]
        self.assertEqual(lines, [line(*before)] + [line(*each) for each in after])

    def hunter(self, text, begin, ends, others=""):
        self.comes(text, ("h", f"{begin} {others}", "", "b2"), [("k", f"{end} {others}", "", "b2") for end in ends])

    def man(self, text, begin, ends):
        self.comes(text, ("k", "", begin, "b2"), [("h", "", end, "b2") for end in ends])

    def king(self, text, begin, ends, h="", m="", size=(7, 7)):
        self.comes(text, ("k", h, m, begin), [("h", h, m, end) for end in ends], size)

    def test_a_hunter_goes_along_his_row_and_column_in_order(self):
        self.hunter(world(NO_SEAT), "e4", "e1 e2 e3 a4 b4 c4 d4 f4 g4 e5 e6 e7".split())
        self.hunter(world(NO_SEAT), "g7", "g1 g2 g3 g4 g5 g6 a7 b7 c7 d7 e7 f7".split())

    def test_a_man_goes_likewise(self):
        self.man(world(NO_SEAT), "e4", "e1 e2 e3 a4 b4 c4 d4 f4 g4 e5 e6 e7".split())

    def test_moves_go_by_the_cell_they_begin_on_then_by_the_one_they_come_to(self):
        ground = ["#####", "#.#.#", "#.###", "#.#.#", "###.X"]
        self.comes(world(ground, goal="exits"), ("k", "", "d1", "b3"),
                   [("h", "", "d2", "b3"), ("h", "", "d1", "b2"), ("h", "", "d1", "b4")], (5, 5))
        self.comes(world(ground, goal="exits"), ("h", "d2 b3", "", "d4"),
                   [("k", "d1 b3", "", "d4"), ("k", "d2 b2", "", "d4"), ("k", "d2 b4", "", "d4")], (5, 5))

    def test_walls_and_pieces_stop_them(self):
        self.hunter(world(NO_SEAT), "d2", "d1 e2 f2 g2 d3 d4 d5 d6 d7".split())
        boxed_in = put(NO_SEAT, g6="#", f7="#", d1="#", d4="#")
        self.hunter(world(boxed_in), "d2", "e2 f2 g2 d3".split(), "g7")
        hunters = "d3 e2"
        text = world(put(NO_SEAT, c3="#", e3="#", d4="#", e1="#", f2="#"))
        self.hunter(text, "d2", ["d1"], hunters)

    def test_they_go_over_a_passed_seat_but_do_not_stop_there(self):
        self.hunter(world(BOXED, seat="passed quiet"), "d3", "d1 d2 c3 e3 f3 g3 d5 d6 d7".split())
        self.man(world(BOXED, seat="passed all"), "d3", "d1 d2 c3 e3 f3 g3 d5 d6 d7".split())
        self.hunter(world(BOXED, seat="passed quiet"), "a4", "a3 b4 c4 e4 f4 g4 a5 a6 a7".split())

    def test_a_barred_seat_stops_them(self):
        self.hunter(world(BOXED, seat="barred quiet"), "d3", "d1 d2 c3 e3 f3 g3".split())
        self.man(world(BOXED, seat="barred men"), "d3", "d1 d2 c3 e3 f3 g3".split())

    def test_exits_stop_them(self):
        for exits in ("quiet", "all"):
            text = world(put(NO_SEAT, d5="X", f3="X"), exits=exits)
            self.hunter(text, "d3", "d1 d2 c3 e3 d4".split())
            self.man(text, "d3", "d1 d2 c3 e3 d4".split())

    def test_the_king_slides_over_seat_and_exits_and_stops_there(self):
        ground = put(["......."] * 7, d4="S", d3="X", f5="X", b5="#")
        for seat in ("passed quiet", "barred all"):
            text = world(ground, seat=seat, exits="all")
            self.king(text, "d5", "d1 d2 d3 d4 c5 e5 f5 g5 d6 d7".split())

    def test_the_king_steps(self):
        ground = put(["......."] * 7, d4="S", d6="X", c5="#")
        text = world(ground, king="steps armed two")
        self.king(text, "d5", "d4 e5 d6".split())
        self.king(world(ground, king="slides armed two"), "d5", "d1 d2 d3 d4 e5 f5 g5 d6 d7".split())

    def test_pieces_stop_the_king(self):
        ground = put(WALLS, b2=".", c2=".", d2=".", e2=".", f2=".")
        text = world(ground, goal="exits")
        self.king(text, "d2", "b2 c2 e2 f2".split())
        self.comes(text, ("k", "", "b2 f2", "d2"),
                   [("h", "", "c2 f2", "d2"), ("h", "", "b2 f2", "c2"), ("h", "", "b2 f2", "e2"),
                    ("h", "", "b2 e2", "d2")])

    def test_nobody_goes_over_the_king_on_the_seat(self):
        ground = put(WALLS, d4="S", c4=".", b4=".", e4=".", f4=".")
        text = world(ground, goal="exits")
        lines = ending(text, spot(7, 7, "h", h="b4", k="d4"))[0]
        self.assertEqual(lines[1], spot(7, 7, "k", h="c4", k="d4"))
        self.assertEqual(lines[2], spot(7, 7, "h", h="c4", k="e4"))
        lines = ending(text, spot(7, 7, "h", h="b4", k="f4"))[0]
        self.assertEqual(lines[1:3], [spot(7, 7, "k", h=end, k="f4") for end in ("c4", "e4")])

    def test_the_first_cell_and_the_last(self):
        ground = put(["#" * 13] * 13, a1=".", b1=".", a2=".", m13=".", l13=".", m12=".", f6="X", c3=".")
        self.king(world(ground, goal="exits"), "b1", ["a1"], size=(13, 13))
        self.king(world(ground, goal="exits"), "a1", ["b1", "a2"], size=(13, 13))
        self.king(world(ground, goal="exits"), "m12", ["m13"], size=(13, 13))
        self.king(world(ground, goal="exits"), "m13", ["m12", "l13"], size=(13, 13))

    def test_the_ground_ends_at_each_side(self):
        ground = ["....."] * 5
        self.king(world(ground), "c3", "c1 c2 a3 b3 d3 e3 c4 c5".split(), size=(5, 5))
        wide = ["............."] * 13
        ends = "g1 g2 g3 g4 g5 g6 a7 b7 c7 d7 e7 f7 h7 i7 j7 k7 l7 m7 g8 g9 g10 g11 g12 g13".split()
        self.king(world(wide), "g7", ends, size=(13, 13))


class LaneTest(unittest.TestCase):
    def taken(self, yes, side, prey, anvil=".", h="", m="", k="e1", **said):
        """Whether the move to c3 takes the one on b3; prey is his sort, anvil the sign of a3."""
        ground = put(LANE, a3=anvil, a1="." if anvil == "S" else "S")
        pieces = {"h": h, "m": m, "k": k}
        other = "k" if side == "h" else "h"
        with self.subTest(side=side, anvil=anvil, **pieces, **said):
            lines = ending(world(ground, goal="exits", **said), spot(5, 5, side, **pieces))[0]
            short = {sort: cells.replace("c1", "c2") for sort, cells in pieces.items()}
            self.assertEqual(lines[1], spot(5, 5, other, **short))
            after = {sort: cells.replace("c1", "c3") for sort, cells in pieces.items()}
            if yes:
                after[prey] = after[prey].replace("b3", "")
            self.assertEqual(lines[2], spot(5, 5, other, **after))

    def test_a_man_between_two_hunters(self):
        self.taken(True, "h", "m", h="c1 a3", m="b3")
        self.taken(False, "h", "m", h="c1", m="b3")
        self.taken(False, "h", "m", h="c1", m="b3 a3")

    def test_a_hunter_between_two_men(self):
        self.taken(True, "k", "h", m="c1 a3", h="b3")
        self.taken(False, "k", "h", m="c1", h="b3")
        self.taken(False, "k", "h", m="c1", h="b3 a3")

    def test_a_wall_is_no_help(self):
        self.taken(False, "h", "m", anvil="#", h="c1", m="b3")
        self.taken(False, "k", "h", anvil="#", m="c1", h="b3")

    def test_the_end_of_the_ground_is_no_help(self):
        ground = put(LANE, a3="#", b3="#", d3=".", e3=".")
        for side, h, m in (("h", "c3", "e3"), ("k", "e3", "c3")):
            lines = ending(world(put(ground, b4="."), goal="exits"), spot(5, 5, side, h=h, m=m, k="e1"))[0]
            after = spot(5, 5, "k" if side == "h" else "h", h=h.replace("c3", "d3"), m=m.replace("c3", "d3"), k="e1")
            self.assertIn(after, lines)

    def test_beyond_the_end_there_is_nobody(self):
        """On the largest ground, whose cells use up all numbers."""
        ground = put(["#" * 13] * 13, a5=".", b5=".", b6=".", c5=".", m13=".", m12=".", l13=".", k1=".", f6="X")
        for side, h, m in (("h", "b6 m13 m12 l13", "a5"), ("k", "a5", "b6 m13 m12 l13"),
                           ("h", "b5 m12 l13", "m13"), ("k", "m13", "b5 m12 l13")):
            lines = ending(world(ground, goal="exits"), spot(13, 13, side, h=h, m=m, k="k1"))[0]
            begin, end = ("b6", "b5") if "b6" in h + m else ("b5", "a5")
            after = spot(13, 13, "k" if side == "h" else "h", h=h.replace(begin, end), m=m.replace(begin, end), k="k1")
            self.assertEqual(lines[1], after)

    def test_nobody_takes_his_own(self):
        self.taken(False, "h", "h", h="c1 b3 a3")
        self.taken(False, "k", "m", m="c1 b3 a3")

    def test_an_armed_king_takes_and_helps_to_take(self):
        self.taken(True, "k", "h", m="c1", h="b3", k="a3", king="slides armed two")
        self.taken(False, "k", "h", m="c1", h="b3", k="a3", king="slides bare two")
        self.taken(True, "k", "h", m="a3", h="b3", k="c1", king="slides armed two")
        self.taken(False, "k", "h", m="a3", h="b3", k="c1", king="slides bare two")

    def test_a_bare_king_takes_none_against_hostile_cells_either(self):
        for sign in "SX":
            self.taken(False, "k", "h", anvil=sign, h="b3", k="c1", king="slides bare two",
                       seat="passed all", exits="all")
            self.taken(True, "k", "h", anvil=sign, h="b3", k="c1", king="slides armed two",
                       seat="passed all", exits="all")

    def test_enmity_of_the_seat(self):
        for enmity, hunters, men in (("quiet", False, False), ("hunters", True, False),
                                     ("men", False, True), ("all", True, True)):
            for crossing in ("passed", "barred"):
                self.taken(men, "h", "m", anvil="S", h="c1", m="b3", seat=f"{crossing} {enmity}")
                self.taken(hunters, "k", "h", anvil="S", m="c1", h="b3", seat=f"{crossing} {enmity}")
                self.taken(men, "h", "k", anvil="S", h="c1", k="b3", seat=f"{crossing} {enmity}")

    def test_enmity_of_exits(self):
        for enmity, hunters, men in (("quiet", False, False), ("hunters", True, False),
                                     ("men", False, True), ("all", True, True)):
            self.taken(men, "h", "m", anvil="X", h="c1", m="b3", exits=enmity)
            self.taken(hunters, "k", "h", anvil="X", m="c1", h="b3", exits=enmity)
            self.taken(men, "h", "k", anvil="X", h="c1", k="b3", exits=enmity)

    def test_seat_and_exits_have_enmities_of_their_own(self):
        self.taken(False, "h", "m", anvil="X", h="c1", m="b3", seat="passed all", exits="quiet")
        self.taken(False, "h", "m", anvil="S", h="c1", m="b3", seat="passed quiet", exits="all")

    def test_plain_cells_are_never_hostile(self):
        self.taken(False, "h", "m", h="c1", m="b3", seat="passed all", exits="all")
        self.taken(False, "k", "h", m="c1", h="b3", seat="passed all", exits="all")
        self.taken(False, "h", "m", anvil="#", h="c1", m="b3", seat="passed all", exits="all")

    def test_the_seat_with_somebody_on_it_is_quiet(self):
        self.taken(False, "h", "m", anvil="S", h="c1", m="b3", k="a3", seat="passed all")
        self.taken(False, "k", "h", anvil="S", m="c1", h="b3", k="a3", seat="passed all", king="slides bare two")
        self.taken(True, "k", "h", anvil="S", m="c1", h="b3", k="a3", seat="passed quiet", king="slides armed two")

    def test_an_exit_is_hostile_whoever_is_on_it(self):
        inner = ["#########", "#########", "##...####", "####.####", "####.####", "#########"]
        inner = put(inner, c4="X")
        for exits, yes in (("quiet", False), ("hunters", True), ("men", False), ("all", True)):
            text = world(inner, exits=exits, king="slides bare two")
            lines = ending(text, spot(9, 6, "k", h="d4", m="e2", k="c4"))[0]
            self.assertEqual(lines[2], spot(9, 6, "h", h="" if yes else "d4", m="e4", k="c4"))
        for exits, yes in (("quiet", False), ("hunters", False), ("men", True), ("all", True)):
            text = world(inner, exits=exits, king="slides bare two")
            lines = ending(text, spot(9, 6, "h", h="e2", m="d4", k="c4"))[0]
            self.assertEqual(lines[2], spot(9, 6, "k", h="e4", m="" if yes else "d4", k="c4"))

    def test_the_king_taken_by_two(self):
        self.taken(True, "h", "k", h="c1 a3", k="b3")
        self.taken(False, "h", "k", h="c1", k="b3")
        self.taken(False, "h", "k", h="c1", k="b3", m="a3")
        self.taken(False, "h", "k", anvil="#", h="c1", k="b3")
        self.taken(True, "h", "k", h="c1 a3", k="b3", king="steps bare two")

    def test_two_are_not_enough_where_four_are_asked(self):
        self.taken(False, "h", "k", h="c1 a3", k="b3", king="slides armed four")
        self.taken(True, "h", "m", h="c1 a3", m="b3", king="slides armed four")

    def test_who_moves_between_two_is_not_taken(self):
        ground = ["####X", "#####", ".....", "##.##", "##.#."]
        text = world(ground, goal="exits")
        lines = ending(text, spot(5, 5, "k", h="b3 d3", m="c1", k="e1"))[0]
        self.assertEqual(lines[2], spot(5, 5, "h", h="b3 d3", m="c3", k="e1"))
        lines = ending(text, spot(5, 5, "k", h="b3 d3", k="c1"))[0]
        self.assertEqual(lines[2], spot(5, 5, "h", h="b3 d3", k="c3"))
        lines = ending(text, spot(5, 5, "h", m="b3 d3", h="c1", k="e1"))[0]
        self.assertEqual(lines[2], spot(5, 5, "k", m="b3 d3", h="c3", k="e1"))

    def test_who_stands_between_two_is_not_taken_by_a_move_elsewhere(self):
        ground = put(LANE, e3=".", e2=".", b3=".")
        lines = ending(world(ground, goal="exits"), spot(5, 5, "h", h="a3 c3 e3", m="b3", k="e1"))[0]
        self.assertIn(spot(5, 5, "k", h="a3 c3 e2", m="b3", k="e1"), lines)
        lines = ending(world(ground, goal="exits"), spot(5, 5, "h", h="a3 c3 e3", k="b3"))[0]
        self.assertIn(spot(5, 5, "k", h="a3 c3 e2", k="b3"), lines)


# The king on d4; a hunter comes from d1 to d3 by his second move. Hunters on c4, d5, e4 have no other way.
FOUR = put(WALLS, d1=".", d2=".", d3=".", d4=".", c4=".", e4=".", d5=".")


class FourTest(unittest.TestCase):
    def taken(self, yes, h, m="", k="d4", ground=FOUR, king="slides armed four", **said):
        """Whether the move d1-d3 takes the king."""
        with self.subTest(h=h, m=m, ground=ground, **said):
            lines = ending(world(ground, goal="exits", king=king, **said), spot(7, 7, "h", h=h, m=m, k=k))[0]
            self.assertEqual(lines[1], spot(7, 7, "k", h=h.replace("d1", "d2"), m=m, k=k))
            after = spot(7, 7, "k", h=h.replace("d1", "d3"), m=m, k="" if yes else k)
            self.assertEqual(lines[2], after)

    def test_four_hunters(self):
        self.taken(True, "d1 c4 e4 d5")
        self.taken(True, "d1 c4 e4 d5", king="steps bare four")

    def test_one_is_missing(self):
        self.taken(False, "d1 e4 d5")
        self.taken(False, "d1 c4 e4")
        self.taken(False, "d1 c4 d5")
        self.taken(False, "d1 d5")

    def test_a_man_beside_him_helps(self):
        self.taken(False, "d1 e4 d5", m="c4")

    def test_a_wall_beside_him_helps(self):
        self.taken(False, "d1 e4 d5", ground=put(FOUR, c4="#"))

    def test_hostile_cells_beside_him(self):
        for enmity, yes in (("quiet", False), ("hunters", False), ("men", True), ("all", True)):
            seat = put(FOUR, c4="S")
            self.taken(yes, "d1 e4 d5", ground=seat, seat=f"passed {enmity}")
            self.taken(yes, "d1 e4 d5", ground=seat, seat=f"barred {enmity}")
            self.taken(yes, "d1 c4 e4", ground=put(FOUR, d5="X"), exits=enmity)
            self.taken(yes, "d1", ground=put(FOUR, d5="X", e4="X", c4="X"), exits=enmity)

    def test_the_seat_below_him_is_no_help(self):
        for seat in ("passed quiet", "barred all"):
            self.taken(True, "d1 c4 e4 d5", ground=put(FOUR, d4="S"), seat=seat)

    def test_three_on_the_edge_are_not_enough(self):
        ground = put(WALLS, a1=".", a2=".", a3=".", a4=".", a5=".", b4=".")
        for king, yes in (("slides armed four", False), ("slides armed two", True)):
            lines = ending(world(put(ground, d4="."), goal="exits", king=king),
                           spot(7, 7, "h", h="a1 a5 b4", k="a4"))[0]
            self.assertEqual(lines[2], spot(7, 7, "k", h="a3 a5 b4", k="" if yes else "a4"))

    def test_the_last_hunter_must_come_beside_him(self):
        lines = ending(world(FOUR, goal="exits", king="slides armed four"),
                       spot(7, 7, "h", h="d1 d3 c4 e4 d5", k="d4"))[0]
        self.assertEqual(lines[1], spot(7, 7, "k", h="d2 d3 c4 e4 d5", k="d4"))


class SeveralTest(unittest.TestCase):
    def after(self, side, h="", m="", k="g1", ground=CROSS):
        return ending(world(ground, goal="exits"), spot(7, 7, side, h=h, m=m, k=k))[0][1]

    def test_a_hunter_takes_three_men(self):
        self.assertEqual(self.after("h", h="d3 b4 f4 d6", m="c4 e4 d5"), spot(7, 7, "k", h="d4 b4 f4 d6", k="g1"))

    def test_a_man_takes_three_hunters(self):
        self.assertEqual(self.after("k", m="d3 b4 f4 d6", h="c4 e4 d5"), spot(7, 7, "h", m="d4 b4 f4 d6", k="g1"))

    def test_an_armed_king_takes_three_hunters(self):
        self.assertEqual(self.after("k", m="b4 f4 d6", h="c4 e4 d5", k="d3"), spot(7, 7, "h", m="b4 f4 d6", k="d4"))

    def test_only_those_with_somebody_behind_them(self):
        self.assertEqual(self.after("h", h="d3 b4 d6", m="c4 e4 d5", ground=put(CROSS, f4="#")),
                         spot(7, 7, "k", h="d4 b4 d6", m="e4", k="g1"))

    def test_the_king_and_two_men(self):
        self.assertEqual(self.after("h", h="d3 b4 f4 d6", m="c4 e4", k="d5"), spot(7, 7, "k", h="d4 b4 f4 d6"))


if __name__ == "__main__":
    unittest.main()
