"""Rules' texts: the grammar, and a text's fault."""

from hallends.hall import Hall, on_edge
from hallends.reader import Astray, Reader
from hallends.refusals import RulesAtFault

ENMITIES = ("quiet", "hunters", "men", "all")
# What is told by a word: what it's called, what stands before it, the words by their numbers.
CHOICES = (
    ("first", "first ", ("hunters", "king")),
    ("slides", "\nking ", ("steps", "slides")),
    ("armed", " ", ("bare", "armed")),
    ("four", " ", ("two", "four")),
    ("passed", "\nseat ", ("barred", "passed")),
    ("seat", " ", ENMITIES),
    ("exits", "\nexits ", ENMITIES),
    ("goal", "\ngoal ", ("edge", "exits")),
    ("thrice", "\nthrice ", ("drawn", "hunters", "king")),
)
GROUND_SIGNS = (".", "S", "X", "#")
START_SIGNS = (".", "h", "m", "K")


def read_rules(text):
    """The hall that a right text tells of; RulesAtFault if it isn't right."""
    reader = Reader(text)
    try:
        said = read_grammar(reader)
    except Astray as e:
        raise RulesAtFault(1, e.place) from None
    faults = ground_faults(said) + start_faults(said) + goal_faults(said) + missing_faults(said, len(text))
    if faults:
        first = min(faults)
        raise RulesAtFault(first[1], first[0])
    return Hall(said)


def read_grammar(reader):
    """All that the text says, by the document's words, and the places that faults are told by."""
    said = {}
    reader.take("tafl ")
    reader.take_name(16)
    reader.take(" ")
    said["wide"] = reader.take_number(5, 13)
    reader.take(" ")
    said["high"] = reader.take_number(5, 13)
    reader.take("\nground\n")
    said["ground place"] = reader.place
    said["ground"] = read_rows(reader, GROUND_SIGNS, said["wide"], said["high"])
    reader.take("start\n")
    said["start place"] = reader.place
    said["start"] = read_rows(reader, START_SIGNS, said["wide"], said["high"])
    for called, before, words in CHOICES:
        reader.take(before)
        said[called + " place"] = reader.place
        said[called] = reader.choose(words)
    reader.take("\nlimit ")
    said["limit"] = reader.take_number(1, 60000)
    reader.take("\n")
    reader.take_end()
    return said


def read_rows(reader, signs, wide, high):
    """The signs of all rows, one behind another, without the ends of lines."""
    found = []
    for count in range(wide * high):
        found.append(reader.take_one_of(signs))
        if count % wide == wide - 1:
            reader.take("\n")
    return "".join(found)


def place_in_rows(first, order, wide):
    """The place of the sign with this order, if the rows begin at first: each row before it has an end of line too."""
    return first + order + order // wide


# The faults below are pairs of a place and a kind, so that the least of them is the one that counts.


def ground_faults(said):
    faults = []
    for order, sign in enumerate(said["ground"]):
        if sign == "S" and "S" in said["ground"][:order]:
            faults.append((place_in_rows(said["ground place"], order, said["wide"]), 2))
    return faults


def start_faults(said):
    faults = []
    for order, piece in enumerate(said["start"]):
        place = place_in_rows(said["start place"], order, said["wide"])
        if not may_start(piece, said["ground"][order]):
            faults.append((place, 3))
        if piece == "K" and "K" in said["start"][:order]:
            faults.append((place, 4))
    return faults


def may_start(piece, sign):
    """Whether a piece (or nobody) may be at first where the ground has this sign."""
    if piece == ".":
        return True
    if piece == "K":
        return sign in (".", "S")
    return sign == "."


def goal_faults(said):
    if said["goal"] == 1:
        at_fault = "X" not in said["ground"]
    else:
        at_fault = "K" in said["start"] and starts_on_edge(said)
    return [(said["goal place"], 5)] if at_fault else []


def starts_on_edge(said):
    # Rows are counted from above here; the edge is the same from either side.
    order = said["start"].index("K")
    return on_edge(order % said["wide"], order // said["wide"], said["wide"], said["high"])


def missing_faults(said, length):
    seat_needed = said["passed"] == 0 or said["seat"] != 0
    at_fault = "K" not in said["start"] or "h" not in said["start"] or (seat_needed and "S" not in said["ground"])
    return [(length, 6)] if at_fault else []
