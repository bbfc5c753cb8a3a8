"""What the tests share: rules' texts, lines and calls are built here, answers taken apart."""

from hallends.desk import answers


def blank(wide, high):
    return ["." * wide] * high


def rules_text(ground, start, name="Test", first="hunters", king="slides armed two", seat="passed quiet",
               exits="quiet", goal="edge", thrice="drawn", limit="100"):
    """A rules' text; ground and start are lists of rows, the uppermost first."""
    rows = [f"tafl {name} {len(ground[0])} {len(ground)}", "ground", *ground, "start", *start]
    rows += [f"first {first}", f"king {king}", f"seat {seat}", f"exits {exits}", f"goal {goal}"]
    rows += [f"thrice {thrice}", f"limit {limit}"]
    return "".join(row + "\n" for row in rows)


def any_start(ground):
    """A start that is right on the ground: the king on one inner cell and a hunter on another cell."""
    high, wide = len(ground), len(ground[0])
    plain = [(r, c) for r in range(high) for c in range(wide) if ground[r][c] == "."]
    king = next(p for p in plain if 0 < p[0] < high - 1 and 0 < p[1] < wide - 1)
    hunter = next(p for p in plain if p != king)
    signs = {king: "K", hunter: "h"}
    return ["".join(signs.get((r, c), ".") for c in range(wide)) for r in range(high)]


def world(ground, **said):
    """A rules' text for tests that begin from positions of their own."""
    return rules_text(ground, any_start(ground), **said)


def put(rows, **signs):
    """The rows with signs on cells told by name."""
    rows = [list(row) for row in rows]
    for name, sign in signs.items():
        rows[len(rows) - int(name[1:])]["abcdefghijklm".index(name[0])] = sign
    return ["".join(row) for row in rows]


def cell(name):
    return "abcdefghijklm".index(name[0]), int(name[1:]) - 1


def spot(wide, high, turn, h="", m="", k=""):
    """The line of a position whose pieces are told by the names of their cells."""
    pieces = {}
    for sign, names in (("h", h), ("m", m), ("K", k)):
        for name in names.split():
            pieces[cell(name)] = sign
    rows = []
    for y in range(high - 1, -1, -1):
        row = "".join(pieces.get((x, y), ".") for x in range(wide))
        for length in range(wide, 0, -1):
            row = row.replace("." * length, str(length))
        rows.append(row)
    return "/".join(rows) + " " + turn


def lanes(columns):
    """A hunter and a king, each in a lane of its own so many cells long; the exit is out of reach.

    With 3 columns or more every placing comes with either side to move, 2 * columns ** 2 positions; with 2
    each can only go to and fro, which makes 4.
    """
    lane = "." * columns + "#" * (13 - columns)
    ground = [lane, "#" * 13, lane, "#" * 13, "############X"]
    start = ["h" + "." * 12, "." * 13, "K" + "." * 12, "." * 13, "." * 13]
    return rules_text(ground, start, goal="exits"), in_lanes("h", "a5", "a3")


def in_lanes(turn, hunter, king):
    return spot(13, 5, turn, h=hunter, k=king)


ON_WALL = in_lanes("h", "a5", "a4")


def codes(text):
    return list(text) if isinstance(text, (bytes, list)) else [ord(sign) for sign in text]


def rules(text):
    return [0, len(codes(text)), *codes(text)]


def find(line, most=200):
    return [1, most, len(codes(line)), *codes(line)]


def pos(number):
    return [2, number]


def no(line):
    return [3, len(codes(line)), *codes(line)]


def value(number):
    return [4, number]


def best(number):
    return [5, number]


def sums():
    return [6]


def table():
    return [7]


def judge(line, told, most=200):
    return [8, most, len(codes(line)), *codes(line), len(told), *told]


def split(told):
    found = []
    at = 0
    while at < len(told):
        found.append(told[at + 1:at + 1 + told[at]])
        at += 1 + told[at]
    assert at == len(told)
    return found


def ask(*calls):
    """The answers to the calls, a list of numbers each."""
    return split(answers([number for call in calls for number in call]))


def text_told(answer):
    """The text that pos tells."""
    assert answer[0] == 0 and answer[1] == len(answer) - 2, answer
    return "".join(chr(code) for code in answer[2:])


def list_told(answer):
    """The list that sums and table tell."""
    assert answer[0] == 0 and answer[1] == len(answer) - 2, answer
    return answer[2:]


def name_of(number):
    return "abcdefghijklm"[number % 13] + str(number // 13 + 1)


def best_told(answer):
    """What best tells: the number of a position, the move's cells by name, over or not, the taken by name."""
    assert answer[0] == 0 and answer[2] == len(answer) - 3, answer
    begin, end, over = answer[3:6]
    return answer[1], name_of(begin), name_of(end), over, " ".join(name_of(number) for number in answer[6:])


def ending(text, line):
    """All that comes of a position: the lines and the values, by number."""
    count = ask(rules(text), find(line))[1][0]
    assert count > 0, count
    asked = ask(rules(text), find(line), *[pos(i) for i in range(count)])
    lines = [text_told(answer) for answer in asked[2:]]
    asked = ask(rules(text), find(line), *[value(i) for i in range(count)])
    return lines, [tuple(answer[1:]) for answer in asked[2:] if answer[0] == 0]
