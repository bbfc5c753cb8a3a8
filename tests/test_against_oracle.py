"""The program against the second reading in oracle.py, on worlds, texts and lines made from fixed seeds."""

import random
import unittest

import oracle
from helper import any_start, ask, best, ending, find, judge, no, rules, rules_text, sums, table, world
from worlds import random_ground, random_position, random_words, random_worlds


class WorldsTest(unittest.TestCase):
    def test_all_that_comes_and_its_values(self):
        chance = random.Random(7)
        small = 0
        seen = {0: 0, 1: 0, 2: 0}
        for game, text, position in random_worlds(chance, 1000):
            with self.subTest(text=text, line=game.line(position)):
                found = game.all_that_comes(position, 200)
                if found is None:
                    self.assertEqual(ask(rules(text), find(game.line(position))), [[0], [-9]])
                    continue
                small += 1
                lines, values = ending(text, game.line(position))
                self.assertEqual(lines, [game.line(each) for each in found[0]])
                self.assertEqual(values, game.values(*found))
                for who, count in values:
                    seen[who] += count > 1 or who == 2
                self.bounds(text, game.line(position), len(lines))
        self.assertGreater(small, 300)
        self.assertGreater(min(seen.values()), 300)

    def bounds(self, text, line, count):
        """As many positions as most are held; one more is refused."""
        self.assertEqual(ask(rules(text), find(line, count))[1], [count])
        self.assertEqual(ask(rules(text), find(line, count - 1))[1], [-9] if count > 1 else [-1])


class CallsTest(unittest.TestCase):
    """best, sums, table and judge on worlds where not too many positions come."""

    def test_best_sums_table_judge(self):
        chance = random.Random(17)
        self.seen = {}
        for game, text, position in random_worlds(chance, 500):
            found = game.all_that_comes(position, 200)
            if found is not None:
                with self.subTest(text=text, line=game.line(position)):
                    self.compare(game, text, found[0], game.values(*found))
                    self.judged(chance, text, game.line(position), oracle.table_answer(game.values(*found))[2:])
        # What a move ends is the mover's.
        for key in (*[(over, "mover's") for over in (0, 1, 2, 3)], (0, "other's"), (0, "nobody's"), 0, 1):
            self.assertGreater(self.seen.get(key, 0), 10, key)

    def compare(self, game, text, found, values):
        asked = ask(rules(text), find(game.line(found[0])), sums(), table(), *[best(i) for i in range(len(found))])
        self.assertEqual(asked[2], oracle.sums_answer(values))
        self.assertEqual(asked[3], oracle.table_answer(values))
        self.assertEqual(asked[4:], [game.best_answer(found, values, i) for i in range(len(found))])
        for number, answer in enumerate(asked[4:]):
            if answer[0] == 0:
                mover = "hk".index(found[number][1])
                sure = {mover: "mover's", 1 - mover: "other's", 2: "nobody's"}[values[number][0]]
                for key in ((answer[5], sure), len(answer) - 6):
                    self.seen[key] = self.seen.get(key, 0) + 1

    def judged(self, chance, text, line, told):
        at = chance.randrange(len(told))
        wrong = [told[:at] + [number] + told[at + 1:] for number in (told[at] + 1, told[at] + 2, 2147483647)]
        wrong += [told[:at] + told[at + 1:], told[:at] + [told[at]] + told[at:], told + [0], [0] + told, [], told * 2]
        if told[at]:
            wrong.append(told[:at] + [0] + told[at + 1:])
        asked = ask(rules(text), *[judge(line, each) for each in [told, *wrong, told]])
        self.assertEqual(asked, [[0], [1], *[[0]] * len(wrong), [1]])


def random_rules_text(chance):
    wide, high = chance.randrange(5, 14), chance.randrange(5, 14)
    ground = [[chance.choice("........#") for _ in range(wide)] for _ in range(high)]
    for sign in "SX" * chance.randrange(2):
        ground[chance.randrange(high)][chance.randrange(wide)] = sign
    rows = ["".join(row) for row in ground]
    start = any_start(rows)
    said = random_words(chance)
    said["limit"] = chance.choice(["1", "60000", "59999", "100", "9"])
    said["first"] = chance.choice(["hunters", "king"])
    said["thrice"] = chance.choice(["drawn", "hunters", "king"])
    name = "A" + "b4Z"[:chance.randrange(3)] * chance.randrange(1, 8)
    return rules_text(rows, start, name=name, **said)


def reset(chance, text):
    """The text with a sign or two of its rows changed to others that the grammar has there."""
    rows = text.split("\n")
    high = int(rows[0].split()[3])
    for _ in range(chance.choice([1, 1, 2, 3])):
        first, signs = chance.choice([(2, ".SSX#"), (3 + high, ".hmK"), (3 + high, ".K")])
        at = first + chance.randrange(high)
        x = chance.randrange(len(rows[at]))
        rows[at] = rows[at][:x] + chance.choice(signs) + rows[at][x + 1:]
    return "\n".join(rows)


def spoilt(chance, text, signs):
    """The text with a sign or two put in, taken out or changed, or broken off."""
    for _ in range(chance.choice([1, 1, 1, 2])):
        at = chance.randrange(len(text) + 1)
        sign = chance.choice(signs)
        text = chance.choice([text[:at] + sign + text[at:], text[:at] + sign + text[at + 1:],
                              text[:at] + sign + text[at + 1:], text[:at] + text[at + 1:], text[:at]])
        if not text:
            break
    return text


def displaced(chance, line):
    """The line with its rows in another order."""
    board, turn = line.split()
    rows = board.split("/")
    chance.shuffle(rows)
    return "/".join(rows) + " " + turn


class TextsTest(unittest.TestCase):
    def test_rules_texts(self):
        chance = random.Random(11)
        kinds = {0: 0, 1: 0, 2: 0, 3: 0, 4: 0, 5: 0, 6: 0}
        for count in range(2500):
            text = random_rules_text(chance)
            if count % 3 == 0:
                text = reset(chance, text)
            if count % 3 == 1:
                text = spoilt(chance, text, "hmKSX#.hmKSX#. 0123456789abkz\n!\0")
            with self.subTest(text=text):
                told = ask(rules(text))[0]
                self.assertEqual(told, oracle.rules_answer(text))
                kinds[0 if told == [0] else told[1]] += 1
        self.assertGreater(min(kinds.values()), 20)

    def test_lines(self):
        chance = random.Random(13)
        kinds = {1: 0, 2: 0, None: 0}
        for _ in range(1500):
            ground = random_ground(chance)
            if chance.random() < 0.5:
                ground = [row + ".#..X..."[:13 - len(row)] for row in ground]
            said = {"king": "slides armed two", "seat": "passed quiet", "exits": "quiet", "goal": "edge"}
            game = oracle.Game(ground, **said)
            line = game.line(random_position(chance, game))
            if chance.random() < 0.8:
                displace = chance.random() < 0.3
                line = displaced(chance, line) if displace else spoilt(chance, line, "hmKK/ 0123456789k.x\n")
            with self.subTest(ground=ground, line=line):
                fault = oracle.line_answer(line, ground)
                told = ask(rules(world(ground, **said)), find(line, 0), no(line))
                self.assertEqual(told, [[0], [-1] if fault is None else [-5, *fault], [-3]])
                kinds[fault[0] if fault else None] += 1
        self.assertGreater(min(kinds.values()), 50)


if __name__ == "__main__":
    unittest.main()
