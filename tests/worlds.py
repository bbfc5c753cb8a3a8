"""Small worlds made by chance, from seeds that the tests fix."""

import oracle
from helper import world

WORDS = {
    "king": [f"{a} {b} {c}" for a in ("slides", "steps") for b in ("armed", "bare") for c in ("two", "four")],
    "seat": [f"{a} {b}" for a in ("passed", "barred") for b in ("quiet", "hunters", "men", "all")],
    "exits": ["quiet", "hunters", "men", "all"],
    "goal": ["edge", "exits"],
}


def random_ground(chance):
    """A ground with many walls, a seat, at least one exit and two plain cells for the start."""
    while True:
        wide, high = chance.choice([(5, 5), (5, 6), (7, 5), (6, 6)])
        cells = chance.choices(".#X", [6, chance.choice([2, 8]), 1], k=wide * high)
        cells[chance.randrange(wide * high)] = "S"
        rows = ["".join(cells[wide * r:wide * (r + 1)]) for r in range(high)]
        inner = "".join(row[1:-1] for row in rows[1:-1])
        if "X" in cells and "." in inner and cells.count(".") > 3:
            return rows


def random_position(chance, game):
    plain = [c for c in game.signs if game.signs[c] == "."]
    chance.shuffle(plain)
    hunters, men = chance.choice([(1, 0), (2, 0), (1, 1), (2, 1), (3, 0), (3, 1), (4, 2), (5, 1)])
    signs = ("h" * hunters + "m" * men)[:len(plain)]
    pieces = dict(zip(plain, signs))
    free = [c for c in game.signs if game.signs[c] != "#" and c not in pieces]
    king = [c for c in free if not game.over_by_king({**pieces, c: "K"})] or free
    if king and chance.random() < 0.97:
        pieces[chance.choice(king)] = "K"
    return frozenset(pieces.items()), chance.choice("hk")


def random_words(chance):
    return {key: chance.choice(words) for key, words in WORDS.items()}


def random_worlds(chance, count):
    """So many worlds: the second reading's game, the rules' text, and a position to begin with."""
    for _ in range(count):
        said = random_words(chance)
        ground = random_ground(chance)
        game = oracle.Game(ground, **said)
        position = random_position(chance, game)
        yield game, world(ground, **said), position
