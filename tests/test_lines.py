"""Positions' lines: how they are read by find and no, told by pos, and their faults."""

import unittest

from helper import ask, blank, find, no, pos, rules, spot, text_told, world

GROUND = [".....",
          ".#...",
          "..S..",
          "....X",
          "....."]
TEXT = world(GROUND)
GOOD = "5/5/2K2/5/5 h"


class FaultsTest(unittest.TestCase):
    def fault(self, line, kind, place, text=TEXT):
        """Told by find, whatever most is, and by no."""
        good = "/".join([str(len(text.split("\n")[2]))] * int(text.split("\n")[0].split()[3])) + " h"
        with self.subTest(line=line):
            asked = ask(rules(text), find(good), find(line, 0), find(line), find(line, 201), no(line))
            self.assertEqual(asked, [[0], [1]] + [[-5, kind, place]] * 4)

    def test_line_that_breaks_off(self):
        for line in (GOOD, "hhmhm/h1h1h/2K2/1m1h1/5 k"):
            for length in range(len(line)):
                self.fault(line[:length], 1, length)

    def test_signs_behind_the_end(self):
        for sign in ("h", " ", "\n", "/", "5"):
            self.fault(GOOD + sign, 1, len(GOOD))

    def test_a_byte_that_never_goes_on(self):
        for place in range(len(GOOD)):
            for sign in ("x", ".", "H", "\n", "?", "\0", "\x80", "\xff"):
                self.fault(GOOD[:place] + sign + GOOD[place + 1:], 1, place)

    def test_number_past_its_row(self):
        self.fault("6/5/5/5/5 h", 1, 0)
        self.fault("9/5/5/5/5 h", 1, 0)
        self.fault("5/h5/5/5/5 h", 1, 3)
        self.fault("10/5/5/5/5 h", 1, 1)
        self.fault("5/4m1/5/5/5 h", 1, 4)
        self.fault("hhhhhh/5/5/5/5 h", 1, 5)

    def test_number_behind_a_number(self):
        self.fault("23/5/5/5/5 h", 1, 1)
        self.fault("5/h22/5/5/5 h", 1, 4)
        self.fault("5/5/5/5/41 h", 1, 9)
        self.fault("5/5/111h1/5/5 h", 1, 5)

    def test_zero(self):
        self.fault("0h4/5/5/5/5 h", 1, 0)
        self.fault("05/5/5/5/5 h", 1, 0)
        self.fault("5/hhhhh0/5/5/5 h", 1, 7)
        self.fault("5/50/5/5/5 h", 1, 3)

    def test_short_rows(self):
        self.fault("4/5/5/5/5 h", 1, 1)
        self.fault("5/5/2K1/5/5 h", 1, 7)
        self.fault("5/5/5/5/4 h", 1, 9)
        self.fault("/5/5/5/5 h", 1, 0)
        self.fault("5//5/5/5 h", 1, 2)

    def test_number_of_rows(self):
        self.fault("5/5/5/5 h", 1, 7)
        self.fault("5/5/5/5/5/5 h", 1, 9)
        self.fault("5/5/5/5/5/ h", 1, 9)

    def test_second_king(self):
        self.fault("5/5/KK3/5/5 h", 1, 5)
        self.fault("K4/5/5/5/4K h", 1, 10)
        self.fault("K4/5/K3K/5/5 h", 1, 5)

    def test_turn(self):
        self.fault("5/5/5/5/5h", 1, 9)
        self.fault("5/5/5/5/5  h", 1, 10)
        self.fault("5/5/5/5/5 m", 1, 10)
        self.fault("5/5/5/5/5 K", 1, 10)
        self.fault("", 1, 0)

    def test_long_lines(self):
        self.fault("h" * 513, 1, 5)
        self.fault(GOOD + " " * 600, 1, len(GOOD))
        self.fault("5/5/5/5/5 " + "k" * 900, 1, 11)
        self.fault(GOOD[:7] + "1" * 506, 1, 7)
        self.fault("1" * 1000, 1, 1)

    def test_numbers_of_two_digits(self):
        text = world(blank(13, 5))
        for row in ("13", "12h", "h12", "1h11", "h10mm", "10hhh", "1h1h1h1h1h1h1", "9hhhh"):
            line = f"13/13/{row}/13/13 k"
            asked = ask(rules(text), find(line), pos(0))
            self.assertEqual(text_told(asked[2]), line)
        self.fault("13/13/14/13/13 k", 1, 7, text)
        self.fault("13/13/h13/13/13 k", 1, 8, text)
        self.fault("13/13/121/13/13 k", 1, 8, text)
        self.fault("13/13/1 /13/13 k", 1, 7, text)
        self.fault("13/13/11h2/13/13 k", 1, 9, text)
        self.fault("13/13/20/13/13 k", 1, 7, text)
        self.fault("13/13/mmm10h/13/13 k", 1, 11, text)

    def test_pieces_where_they_may_not_stand(self):
        self.fault("5/1h3/2K2/5/5 h", 2, 3)
        self.fault("5/1m3/2K2/5/5 h", 2, 3)
        self.fault("5/1K3/5/5/5 h", 2, 3)
        self.fault("5/5/2h2/5/5 k", 2, 5)
        self.fault("5/5/hhmhh/5/5 k", 2, 6)
        self.fault("5/5/5/4h/5 k", 2, 7)
        self.fault("5/5/5/hhhhm/5 k", 2, 10)

    def test_the_first_piece_counts(self):
        self.fault("5/1h3/2h2/4m/5 h", 2, 3)
        self.fault("5/2h2/2h2/4m/5 h", 2, 7)
        self.fault("h4/5/2K2/4m/5 h", 2, 10)

    def test_kind_1_is_first(self):
        self.fault("5/1h3/2K2/5/6 h", 1, 12)
        self.fault("5/1h3/2K2/5/5 x", 1, 14)

    def test_the_king_may_be_on_the_seat_and_on_an_exit(self):
        for line in (GOOD, "5/5/5/4K/5 h"):
            self.assertEqual(ask(rules(TEXT), find(line))[1], [1])

    def test_a_line_without_a_king_or_without_anybody(self):
        for line in ("h4/5/5/5/5 k", "5/5/5/5/5 h", "5/5/5/5/m4 k"):
            asked = ask(rules(TEXT), find(line), pos(0), no(line))
            self.assertEqual(asked[1], [1])
            self.assertEqual(text_told(asked[2]), line)
            self.assertEqual(asked[3], [0])


class ToldTest(unittest.TestCase):
    def test_rows_go_from_above_and_walls_are_cells_without_a_piece(self):
        line = spot(5, 5, "h", h="a1 e5 c4", m="b3", k="d2")
        self.assertEqual(line, "4h/2h2/1m3/3K1/h4 h")
        asked = ask(rules(world(GROUND, goal="exits")), find(spot(5, 5, "h", h="a1", m="b5 a4", k="")), pos(0))
        self.assertEqual(text_told(asked[2]), "1m3/m4/5/5/h4 h")

    def test_a_full_ground(self):
        full = "/".join(["h" * 13] * 12 + ["m" * 12 + "K"]) + " k"
        asked = ask(rules(world(blank(13, 13))), find(full), pos(0))
        self.assertEqual(asked[1], [1])
        self.assertEqual(asked[2][:2], [0, 183])
        self.assertEqual(text_told(asked[2]), full)


if __name__ == "__main__":
    unittest.main()
