"""Reads a text of rules, or tells its fault."""

from hallgames.reader import GrammarFault, Reader
from hallgames.rules import CELLS, EXIT, GOAL_EDGE, GOAL_EXITS, HUNTER, KING, PLAIN, SEAT, SPAN, WALL
from hallgames.rules import Rules, on_edge

LEAST_SIZE = 5
MOST_SIZE = 13
MOST_LIMIT = 60000

GROUND_SIGNS = ".SX#"
START_SIGNS = ".hmK"

# Where a word stands for a number, it is that word's index here.
SIDES = ("hunters", "king")
GAITS = ("steps", "slides")
ARMS = ("bare", "armed")
WAYS_TO_TAKE = ("two", "four")
PASSAGES = ("barred", "passed")
ENMITIES = ("quiet", "hunters", "men", "all")
GOALS = ("edge", "exits")
THRICES = ("drawn", "hunters", "king")


class RulesFault(ValueError):
    def __init__(self, kind, place):
        self.kind = kind
        self.place = place


class Mark:
    # A sign of a row that isn't ".".
    def __init__(self, cell, sign, place):
        self.cell = cell
        self.sign = sign
        self.place = place


class Draft:
    # What the grammar alone finds in a text: the rules it would tell, and the places where they may be at fault.
    def __init__(self, rules, length):
        self.rules = rules
        self.length = length
        self.ground_marks = []
        self.start_marks = []
        self.goal_place = 0


def read_rules(source):
    try:
        draft = read_draft(source)
    except GrammarFault as fault:
        raise RulesFault(1, fault.place) from None
    faults = mark_faults(draft) + goal_faults(draft) + missing_faults(draft)
    if len(faults) > 0:
        earliest = min(faults)
        raise RulesFault(earliest[1], earliest[0])
    return draft.rules


def read_draft(source):
    reader = Reader(source)
    reader.word("tafl ")
    own_name = reader.name()
    reader.word(" ")
    wide = reader.number(LEAST_SIZE, MOST_SIZE)
    reader.word(" ")
    high = reader.number(LEAST_SIZE, MOST_SIZE)
    rules = Rules(own_name, wide, high)
    draft = Draft(rules, len(source))
    reader.word("\nground\n")
    draft.ground_marks = read_marks(reader, rules, GROUND_SIGNS)
    reader.word("start\n")
    draft.start_marks = read_marks(reader, rules, START_SIGNS)
    rules.ground = laid_out(draft.ground_marks)
    rules.board = laid_out(draft.start_marks)
    read_customs(reader, rules)
    read_ends(reader, draft)
    reader.finish()
    return draft


def read_marks(reader, rules, signs):
    marks = []
    for row in range(rules.high):
        for x in range(rules.wide):
            place = reader.place
            sign = signs[reader.choice(signs)]
            if sign != ".":
                marks.append(Mark(SPAN * (rules.high - 1 - row) + x, sign, place))
        reader.word("\n")
    return marks


def laid_out(marks):
    cells = ["."] * CELLS
    for mark in marks:
        cells[mark.cell] = mark.sign
    return "".join(cells)


def read_customs(reader, rules):
    reader.word("first ")
    rules.first = reader.choice(SIDES)
    reader.word("\nking ")
    rules.slides = reader.choice(GAITS)
    reader.word(" ")
    rules.armed = reader.choice(ARMS)
    reader.word(" ")
    rules.four = reader.choice(WAYS_TO_TAKE)
    reader.word("\nseat ")
    rules.passed = reader.choice(PASSAGES)
    reader.word(" ")
    rules.seat = reader.choice(ENMITIES)
    reader.word("\nexits ")
    rules.exits = reader.choice(ENMITIES)
    reader.word("\n")


def read_ends(reader, draft):
    rules = draft.rules
    reader.word("goal ")
    draft.goal_place = reader.place
    rules.goal = reader.choice(GOALS)
    reader.word("\nthrice ")
    rules.thrice = reader.choice(THRICES)
    reader.word("\nlimit ")
    rules.limit = reader.number(1, MOST_LIMIT)
    reader.word("\n")


# A fault is (place, kind), so that the least is the one to tell.


def mark_faults(draft):
    seats = with_sign(draft.ground_marks, SEAT)
    kings = with_sign(draft.start_marks, KING)
    faults = [(mark.place, 2) for mark in seats[1:]]
    for mark in draft.start_marks:
        if is_misplaced(draft.rules.ground[mark.cell], mark.sign):
            faults.append((mark.place, 3))
    return faults + [(mark.place, 4) for mark in kings[1:]]


def with_sign(marks, sign):
    return [mark for mark in marks if mark.sign == sign]


def is_misplaced(ground_sign, piece):
    if piece == KING:
        return ground_sign == WALL or ground_sign == EXIT
    return ground_sign != PLAIN


def goal_faults(draft):
    rules = draft.rules
    kings = with_sign(draft.start_marks, KING)
    if rules.goal == GOAL_EXITS and EXIT not in rules.ground:
        return [(draft.goal_place, 5)]
    if rules.goal == GOAL_EDGE and len(kings) > 0 and on_edge(rules, kings[0].cell):
        return [(draft.goal_place, 5)]
    return []


def missing_faults(draft):
    rules = draft.rules
    needs_seat = rules.passed == 0 or rules.seat > 0
    if KING not in rules.board or HUNTER not in rules.board or (needs_seat and SEAT not in rules.ground):
        return [(draft.length, 6)]
    return []
