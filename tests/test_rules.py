"""The call rules: the grammar of rules' texts and their faults."""

import unittest

from helper import ask, blank, find, pos, rules, rules_text, value

GROUND = [".....",
          ".#...",
          "..S..",
          "....X",
          "....."]
START = ["h...h",
         "...m.",
         "..K..",
         ".....",
         "h...h"]
TEXT = rules_text(GROUND, START)
LINE = "5/5/2K2/5/5 h"


def told(text):
    return ask(rules(text))[0]


def change(rows, row, x, sign):
    """The rows with one sign changed; rows are counted from above."""
    changed = list(rows)
    changed[row] = changed[row][:x] + sign + changed[row][x + 1:]
    return changed


def ground_place(row, x):
    return TEXT.index("ground\n") + 7 + 6 * row + x


def start_place(row, x):
    return TEXT.index("start\n") + 6 + 6 * row + x


class RightTest(unittest.TestCase):
    def right(self, text):
        with self.subTest(text=text):
            self.assertEqual(told(text), [0])

    def test_every_choice(self):
        for word in ("hunters", "king"):
            self.right(rules_text(GROUND, START, first=word))
        for gait in ("slides", "steps"):
            for arms in ("armed", "bare"):
                for hold in ("two", "four"):
                    self.right(rules_text(GROUND, START, king=f"{gait} {arms} {hold}"))
        for enmity in ("quiet", "hunters", "men", "all"):
            self.right(rules_text(GROUND, START, seat=f"passed {enmity}"))
            self.right(rules_text(GROUND, START, seat=f"barred {enmity}"))
            self.right(rules_text(GROUND, START, exits=enmity))
        for word in ("edge", "exits"):
            self.right(rules_text(GROUND, START, goal=word))
        for word in ("drawn", "hunters", "king"):
            self.right(rules_text(GROUND, START, thrice=word))

    def test_numbers_and_names(self):
        for limit in ("1", "9", "10", "59999", "60000", "6000"):
            self.right(rules_text(GROUND, START, limit=limit))
        for name in ("A", "z", "Abcdefghijklmno9", "a123456789012345"):
            self.right(rules_text(GROUND, START, name=name))
        for wide in range(5, 14):
            for high in range(5, 14):
                start = change(change(blank(wide, high), 2, 2, "K"), 0, 0, "h")
                self.right(rules_text(blank(wide, high), start))

    def test_what_is_no_fault(self):
        self.right(rules_text(change(GROUND, 2, 2, "."), START))
        self.right(rules_text(GROUND, change(START, 1, 3, ".")))
        on_edge = change(change(START, 2, 2, "."), 2, 0, "K")
        self.right(rules_text(GROUND, on_edge, goal="exits"))
        self.right(rules_text(GROUND, START, name="K"))


class GrammarTest(unittest.TestCase):
    """Kind 1 and its place."""

    def astray(self, text, place):
        with self.subTest(text=text):
            self.assertEqual(told(text), [-6, 1, place])

    def test_text_that_breaks_off(self):
        for length in range(len(TEXT)):
            self.astray(TEXT[:length], length)

    def test_byte_behind_the_end(self):
        for sign in ("\n", " ", "l", "0"):
            self.astray(TEXT + sign, len(TEXT))

    def test_every_place_with_a_byte_that_never_goes_on(self):
        for place in range(len(TEXT)):
            for code in (0, 9, 13, 37, 63, 128, 255):
                changed = [ord(sign) for sign in TEXT]
                changed[place] = code
                self.assertEqual(told(changed), [-6, 1, place])

    def word(self, right, wrong, at):
        """The wrong words stand for the right ones, and are left at the place at within them."""
        self.assertEqual(TEXT.count(right), 1)
        self.astray(TEXT.replace(right, wrong), TEXT.index(right) + at)

    def test_middle_of_a_word(self):
        self.word("tafl ", "tafel ", 3)
        self.word("ground", "grond", 3)
        self.word("start", "Start", 0)
        self.word("first hunters", "first hunter", 12)
        self.word("first hunters", "first hunterss", 13)
        self.word("first hunters", "first men", 6)
        self.word("first hunters", "first kinghunters", 10)
        self.word("king slides", "king sides", 6)
        self.word("king slides", "king sted", 8)
        self.word("armed two", "barmed two", 3)
        self.word("armed two", "armed three", 7)
        self.word("armed two", "armed  two", 6)
        self.word("seat passed", "seat barre", 10)
        self.word("seat passed quiet", "seat passed king", 12)
        self.word("exits quiet", "exits al", 8)
        self.word("goal edge", "goal exit", 9)
        self.word("goal edge", "goal eXits", 6)
        self.word("thrice drawn", "thrice draws", 11)
        self.word("limit 100", "Limit 100", 0)

    def test_sizes(self):
        at = TEXT.index("5 5")
        for sizes, place in (("4 5", 0), ("0 5", 0), ("05 5", 0), ("2 5", 0), ("1 5", 1), ("14 5", 1), ("19 5", 1),
                             ("55 5", 1), ("130 5", 2), (" 5 5", 0), ("5  5", 2), ("5 4", 2), ("5 14", 3),
                             ("5 05", 2), ("5 3", 2), ("5 51", 3), ("5 1", 3), ("5", 1), ("-5 5", 0)):
            self.astray(TEXT.replace("5 5", sizes), at + place)

    def test_limits(self):
        at = TEXT.index("100")
        for limit, place in (("0", 0), ("01", 0), ("0100", 0), ("60001", 4), ("70000", 4), ("60010", 4),
                             ("600000", 5), ("100000", 5), ("", 0), ("-1", 0), ("1 ", 1), ("99999", 4)):
            self.astray(TEXT.replace("100", limit), at + place)

    def test_names(self):
        for name, place in (("", 0), ("1a", 0), ("a_b", 1), (" a", 0), ("Abcdefghijklmnop9", 16), ("a-", 1)):
            self.astray(TEXT.replace("Test", name), 5 + place)

    def test_rows(self):
        for row in range(5):
            short = list(GROUND)
            short[row] = short[row][:-1]
            self.astray(rules_text(GROUND, START).replace("\n".join(GROUND), "\n".join(short)), ground_place(row, 4))
            long = list(START)
            long[row] += "."
            self.astray(TEXT.replace("\n".join(START), "\n".join(long)), start_place(row, 5))

    def test_number_of_rows(self):
        self.astray(TEXT.replace("\n".join(GROUND), "\n".join(GROUND[:4])), ground_place(4, 0))
        self.astray(TEXT.replace("\n".join(GROUND), "\n".join(GROUND + ["....."])), ground_place(5, 0))
        self.astray(TEXT.replace("\n".join(START), "\n".join(START + ["....."])), start_place(5, 0))

    def test_signs_of_the_other_rows(self):
        self.astray(TEXT.replace("\n".join(GROUND), "\n".join(change(GROUND, 3, 1, "K"))), ground_place(3, 1))
        self.astray(TEXT.replace("\n".join(START), "\n".join(change(START, 3, 1, "S"))), start_place(3, 1))
        self.astray(TEXT.replace("\n".join(START), "\n".join(change(START, 3, 1, "k"))), start_place(3, 1))


class LaterFaultsTest(unittest.TestCase):
    """Kinds 2 to 6, of texts that the grammar has."""

    def fault(self, kind, place, ground=None, start=None, **said):
        text = rules_text(ground or GROUND, start or START, **said)
        with self.subTest(text=text):
            self.assertEqual(told(text), [-6, kind, len(text) if place is None else place])

    def goal_place(self, **said):
        return rules_text(GROUND, START, **said).index("goal ") + 5

    def test_second_seat(self):
        self.fault(2, ground_place(3, 1), ground=change(GROUND, 3, 1, "S"))
        self.fault(2, ground_place(2, 2), ground=change(GROUND, 0, 0, "S"), start=change(START, 0, 0, "."))
        self.fault(2, ground_place(2, 3), ground=change(change(GROUND, 2, 3, "S"), 4, 4, "S"))

    def test_piece_where_it_may_not_be(self):
        for piece in "hm":
            self.fault(3, start_place(1, 1), start=change(START, 1, 1, piece))
            self.fault(3, start_place(3, 4), start=change(START, 3, 4, piece))
            self.fault(3, start_place(2, 2), start=change(change(START, 2, 2, piece), 3, 3, "K"))
        moved = change(START, 2, 2, ".")
        self.fault(3, start_place(1, 1), start=change(moved, 1, 1, "K"))
        self.fault(3, start_place(3, 4), start=change(moved, 3, 4, "K"), goal="exits")

    def test_second_king(self):
        self.fault(4, start_place(3, 1), start=change(START, 3, 1, "K"))
        self.fault(4, start_place(2, 2), start=change(START, 1, 2, "K"))
        self.fault(4, start_place(2, 4), start=change(change(START, 2, 4, "K"), 4, 1, "K"))

    def test_goal(self):
        self.fault(5, self.goal_place(goal="exits"), ground=change(GROUND, 3, 4, "."), goal="exits")
        moved = change(START, 2, 2, ".")
        for row, x in ((0, 2), (4, 2), (2, 0), (2, 4), (0, 1), (3, 0)):
            self.fault(5, self.goal_place(), start=change(moved, row, x, "K"))

    def test_something_missing(self):
        self.fault(6, None, start=change(START, 2, 2, "."))
        self.fault(6, None, start=[row.replace("h", "m") for row in START])
        seatless = change(GROUND, 2, 2, ".")
        for seat in ("barred quiet", "passed hunters", "passed men", "barred all"):
            self.fault(6, None, ground=seatless, seat=seat)

    def test_the_first_by_place_counts(self):
        self.fault(2, ground_place(3, 0), ground=change(GROUND, 3, 0, "S"), start=blank(5, 5))
        king_then_man = change(change(START, 2, 4, "K"), 3, 4, "m")
        self.fault(4, start_place(2, 4), start=king_then_man)
        man_then_king = change(change(START, 1, 1, "m"), 2, 4, "K")
        self.fault(3, start_place(1, 1), start=man_then_king)
        self.fault(3, start_place(1, 1), ground=change(GROUND, 3, 4, "."), start=change(START, 1, 1, "h"),
                   goal="exits")
        self.fault(5, self.goal_place(goal="exits"), ground=change(GROUND, 3, 4, "."), start=blank(5, 5),
                   goal="exits")
        self.fault(4, start_place(2, 2), start=change(START, 0, 2, "K"))

    def test_of_two_at_one_place_the_lesser_kind_counts(self):
        self.fault(3, start_place(3, 4), start=change(START, 3, 4, "K"))
        after = change(change(change(START, 1, 1, "K"), 2, 2, "."), 0, 2, "K")
        self.fault(3, start_place(1, 1), start=after)

    def test_the_grammar_is_first(self):
        text = rules_text(change(GROUND, 3, 0, "S"), change(START, 3, 1, "K"))
        self.assertEqual(told(text), [-6, 2, ground_place(3, 0)])
        self.assertEqual(told(text + "x"), [-6, 1, len(text)])
        self.assertEqual(told(text[:-1]), [-6, 1, len(text) - 1])


class KeptTest(unittest.TestCase):
    """What a call of rules does to the object."""

    def test_a_refused_text_changes_nothing(self):
        told_before = ask(rules(TEXT), find(LINE), pos(0), value(0))
        for wrong in ("", TEXT[:-1], rules_text(GROUND, blank(5, 5)), rules_text(blank(7, 7), blank(7, 7))):
            asked = ask(rules(TEXT), find(LINE), rules(wrong), pos(0), value(0), find(LINE))
            self.assertEqual(asked[2][0], -6)
            self.assertEqual(asked[3:5], told_before[2:4])
            self.assertEqual(asked[5], told_before[1])

    def test_a_refused_text_gives_no_rules(self):
        self.assertEqual(ask(rules(TEXT[:-1]), find(LINE)), [[-6, 1, len(TEXT) - 1], [-3]])

    def test_a_right_text_empties_what_is_held(self):
        asked = ask(rules(TEXT), find(LINE), pos(0), rules(TEXT), pos(0), value(0), find(LINE), value(0))
        self.assertEqual([answer[0] for answer in asked], [0, 1, 0, 0, -3, -3, 1, 0])

    def test_the_new_rules_hold_from_then_on(self):
        wider = rules_text(blank(6, 5), [row + "." for row in START])
        asked = ask(rules(TEXT), find(LINE), rules(wider), find(LINE), find("6/6/2K3/6/6 h"))
        self.assertEqual(asked, [[0], [1], [0], [-5, 1, 1], [1]])


if __name__ == "__main__":
    unittest.main()
