"""Grounds and halls that several tests begin from."""

from helper import put, spot, world

# Walls to put lanes into, and an exit for the goal that nobody reaches.
WALLS = ["######X"] + ["#######"] * 6

# Whoever is on c1 has two moves, c2 and c3, and the second one comes beside b3, behind which is a3. Nobody gets to
# or from e1, where the king waits, the seat on a1, and the exit on e5.
LANE = ["####X",
        "#####",
        "...##",
        "##.##",
        "S#.#."]

# The only move is d3-d4, beside c4, e4 and d5, behind which are b4, f4 and d6.
CROSS = put(WALLS, d3=".", d4=".", b4=".", c4=".", e4=".", f4=".", d5=".", d6=".", g1=".")

# Two halls where each comes: positions sure for the hunters, for the king's side, for nobody. Of either side
# several positions are the longest. The tables were made by the second reading of oracle.py.
SEATED = world([".#X...", "##..X.", "#..#..", "#.X.X#", "###.##", "..S..#"],
               king="slides bare four", seat="barred all", exits="hunters", goal="exits")
SEATED_LINE = spot(6, 6, "k", h="e1", k="c1")
SEATED_TABLE = [4, 0, 0, 2, 0, 0, 0, 0, 0, 4, 8, 0, 8, 0, 4, 8, 0, 0, 0, 0, 6, 3, 0, 0, 0, 3, 0, 0, 0, 4, 1, 0, 0, 8, 2]
HUNTED = world(["##.....", ".###X#.", "S.#.##.", "#####.#", "###.X.."],
               king="slides armed two", seat="barred quiet", exits="hunters", goal="edge")
HUNTED_LINE = spot(7, 5, "k", h="f5", m="e5", k="d3")
HUNTED_TABLE = [9, 3, 7, 1, 0, 0, 5, 0, 0, 7, 11, 0, 3, 3, 0, 0, 8, 0, 8, 0, 8, 0, 0, 8, 0, 0, 0, 15, 0, 0, 0, 15, 6, 0,
                0, 0, 13, 0, 4, 2]
