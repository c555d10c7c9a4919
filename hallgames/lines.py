"""Moves' lines."""

from hallgames.moves import NOT_OVER, list_of_moves, outcome, position_over
from hallgames.reader import agreed
from hallgames.rules import SPAN

LETTERS = "abcdefghijklm"


class LineFault(ValueError):
    # The place is how many bytes stand before the fault.
    def __init__(self, place):
        self.place = place


def cell_name(cell):
    return LETTERS[cell % SPAN] + str(cell // SPAN + 1)


def line_head(x, y):
    return cell_name(x) + "-" + cell_name(y)


def move_line(rules, position, x, y):
    line = line_head(x, y)
    come = outcome(rules, position, x, y)
    over = position_over(rules, come.position)
    if len(come.taken) > 0:
        line += "x" + ",".join([cell_name(cell) for cell in come.taken])
    if over != NOT_OVER:
        line += "#" + str(over)
    return line


def line_to_compare(rules, position, x, y, source):
    # To try every move for the rest of its line is slow, and where the heads differ the rest doesn't matter.
    head = line_head(x, y)
    if agreed(source, 0, head) < len(head):
        return head
    return move_line(rules, position, x, y)


def said_move(rules, position, source):
    # The move, as a tuple of its two cells, whose line the source is.
    longest = 0
    for move in list_of_moves(rules, position):
        line = line_to_compare(rules, position, move[0], move[1], source)
        same = agreed(source, 0, line)
        if same == len(line) and same == len(source):
            return move
        longest = max(longest, same)
    raise LineFault(longest)
