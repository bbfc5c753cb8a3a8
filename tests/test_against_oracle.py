"""The program against the second reading in oracle.py, on worlds, texts and lines made from fixed seeds."""

import random
import unittest

import oracle
from helper import any_start, ask, ending, find, no, rules, rules_text, world

WORDS = {
    "king": [f"{a} {b} {c}" for a in ("slides", "steps") for b in ("armed", "bare") for c in ("two", "four")],
    "seat": [f"{a} {b}" for a in ("passed", "barred") for b in ("quiet", "hunters", "men", "all")],
    "exits": ["quiet", "hunters", "men", "all"],
    "goal": ["edge", "exits"],
}


def random_ground(chance):
    """A ground with many walls, a seat, at least one exit and two plain cells for the start."""
    while True:
        wide, high = chance.choice([(5, 5), (5, 6), (7, 5), (6, 6)])
        cells = chance.choices(".#X", [6, chance.choice([2, 8]), 1], k=wide * high)
        cells[chance.randrange(wide * high)] = "S"
        rows = ["".join(cells[wide * r:wide * (r + 1)]) for r in range(high)]
        inner = "".join(row[1:-1] for row in rows[1:-1])
        if "X" in cells and "." in inner and cells.count(".") > 3:
            return rows


def random_position(chance, game):
    plain = [c for c in game.signs if game.signs[c] == "."]
    chance.shuffle(plain)
    hunters, men = chance.choice([(1, 0), (2, 0), (1, 1), (2, 1), (3, 0), (3, 1), (4, 2), (5, 1)])
    signs = ("h" * hunters + "m" * men)[:len(plain)]
    pieces = dict(zip(plain, signs))
    free = [c for c in game.signs if game.signs[c] != "#" and c not in pieces]
    king = [c for c in free if not game.over_by_king({**pieces, c: "K"})] or free
    if king and chance.random() < 0.97:
        pieces[chance.choice(king)] = "K"
    return frozenset(pieces.items()), chance.choice("hk")


class WorldsTest(unittest.TestCase):
    def test_all_that_comes_and_its_values(self):
        chance = random.Random(7)
        small = 0
        seen = {0: 0, 1: 0, 2: 0}
        for _ in range(1000):
            said = {key: chance.choice(words) for key, words in WORDS.items()}
            ground = random_ground(chance)
            game = oracle.Game(ground, **said)
            position = random_position(chance, game)
            text = world(ground, **said)
            with self.subTest(text=text, line=game.line(position)):
                found = game.all_that_comes(position, 200)
                if found is None:
                    self.assertEqual(ask(rules(text), find(game.line(position))), [[0], [-9]])
                    continue
                small += 1
                lines, values = ending(text, game.line(position))
                self.assertEqual(lines, [game.line(each) for each in found[0]])
                self.assertEqual(values, game.values(*found))
                for who, count in values:
                    seen[who] += count > 1 or who == 2
                self.bounds(text, game.line(position), len(lines))
        self.assertGreater(small, 300)
        self.assertGreater(min(seen.values()), 300)

    def bounds(self, text, line, count):
        """As many positions as most are held; one more is refused."""
        self.assertEqual(ask(rules(text), find(line, count))[1], [count])
        self.assertEqual(ask(rules(text), find(line, count - 1))[1], [-9] if count > 1 else [-1])


def random_rules_text(chance):
    wide, high = chance.randrange(5, 14), chance.randrange(5, 14)
    ground = [[chance.choice("........#") for _ in range(wide)] for _ in range(high)]
    for sign in "SX" * chance.randrange(2):
        ground[chance.randrange(high)][chance.randrange(wide)] = sign
    rows = ["".join(row) for row in ground]
    start = any_start(rows)
    said = {key: chance.choice(words) for key, words in WORDS.items()}
    said["limit"] = chance.choice(["1", "60000", "59999", "100", "9"])
    said["first"] = chance.choice(["hunters", "king"])
    said["thrice"] = chance.choice(["drawn", "hunters", "king"])
    name = "A" + "b4Z"[:chance.randrange(3)] * chance.randrange(1, 8)
    return rules_text(rows, start, name=name, **said)


def reset(chance, text):
    """The text with a sign or two of its rows changed to others that the grammar has there."""
    rows = text.split("\n")
    high = int(rows[0].split()[3])
    for _ in range(chance.choice([1, 1, 2, 3])):
        first, signs = chance.choice([(2, ".SSX#"), (3 + high, ".hmK"), (3 + high, ".K")])
        at = first + chance.randrange(high)
        x = chance.randrange(len(rows[at]))
        rows[at] = rows[at][:x] + chance.choice(signs) + rows[at][x + 1:]
    return "\n".join(rows)


def spoilt(chance, text, signs):
    """The text with a sign or two put in, taken out or changed, or broken off."""
    for _ in range(chance.choice([1, 1, 1, 2])):
        at = chance.randrange(len(text) + 1)
        sign = chance.choice(signs)
        text = chance.choice([text[:at] + sign + text[at:], text[:at] + sign + text[at + 1:],
                              text[:at] + sign + text[at + 1:], text[:at] + text[at + 1:], text[:at]])
        if not text:
            break
    return text


def displaced(chance, line):
    """The line with its rows in another order."""
    board, turn = line.split()
    rows = board.split("/")
    chance.shuffle(rows)
    return "/".join(rows) + " " + turn


class TextsTest(unittest.TestCase):
    def test_rules_texts(self):
        chance = random.Random(11)
        kinds = {0: 0, 1: 0, 2: 0, 3: 0, 4: 0, 5: 0, 6: 0}
        for count in range(2500):
            text = random_rules_text(chance)
            if count % 3 == 0:
                text = reset(chance, text)
            if count % 3 == 1:
                text = spoilt(chance, text, "hmKSX#.hmKSX#. 0123456789abkz\n!\0")
            with self.subTest(text=text):
                told = ask(rules(text))[0]
                self.assertEqual(told, oracle.rules_answer(text))
                kinds[0 if told == [0] else told[1]] += 1
        self.assertGreater(min(kinds.values()), 20)

    def test_lines(self):
        chance = random.Random(13)
        kinds = {1: 0, 2: 0, None: 0}
        for _ in range(1500):
            ground = random_ground(chance)
            if chance.random() < 0.5:
                ground = [row + ".#..X..."[:13 - len(row)] for row in ground]
            said = {"king": "slides armed two", "seat": "passed quiet", "exits": "quiet", "goal": "edge"}
            game = oracle.Game(ground, **said)
            line = game.line(random_position(chance, game))
            if chance.random() < 0.8:
                line = displaced(chance, line) if chance.random() < 0.3 else spoilt(chance, line, "hmKK/ 0123456789k.x\n")
            with self.subTest(ground=ground, line=line):
                fault = oracle.line_answer(line, ground)
                told = ask(rules(world(ground, **said)), find(line, 0), no(line))
                self.assertEqual(told, [[0], [-1] if fault is None else [-5, *fault], [-3]])
                kinds[fault[0] if fault else None] += 1
        self.assertGreater(min(kinds.values()), 50)


if __name__ == "__main__":
    unittest.main()
