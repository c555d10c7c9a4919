"""Positions' lines and moves' lines."""

from hallgames.moves import NOT_OVER, STUCK, list_of_moves, moves_from, outcome, own_cells, position_over
from hallgames.reader import agreed, bytes_of
from hallgames.rules import NOBODY, SPAN

LETTERS = "abcdefghijklm"

# The sign of the side whose turn it is, by the side's number.
TURN_SIGNS = "hk"

# Where in the list that is told of a move the cells that it takes begin.
FIRST_TAKEN = 3


class LineFault(ValueError):
    # The place is how many bytes stand before the fault.
    def __init__(self, place):
        self.place = place


def run_line(length):
    return str(length) if length > 0 else ""


def row_line(signs):
    line = ""
    length = 0
    for sign in signs:
        if sign == NOBODY:
            length += 1
        else:
            line += run_line(length) + sign
            length = 0
    return line + run_line(length)


def position_line(rules, position):
    rows = []
    for y in range(rules.high - 1, -1, -1):
        rows.append(row_line(position.board[SPAN * y:SPAN * y + rules.wide]))
    return "/".join(rows) + " " + TURN_SIGNS[position.turn]


def cell_name(cell):
    return LETTERS[cell % SPAN] + str(cell // SPAN + 1)


def line_head(x, y):
    return cell_name(x) + "-" + cell_name(y)


def move_line(told):
    # From the list that is told of the move. That it's over by thrice or the limit doesn't stand in its line.
    line = line_head(told[0], told[1])
    taken = told[FIRST_TAKEN:]
    over = told[2]
    if len(taken) > 0:
        line += "x" + ",".join([cell_name(cell) for cell in taken])
    if NOT_OVER < over <= STUCK:
        line += "#" + str(over)
    return line


def whole_line(rules, position, x, y):
    come = outcome(rules, position, x, y)
    return move_line([x, y, position_over(rules, come.position)] + come.taken)


def line_to_compare(rules, position, x, y, source):
    # To try every move for the rest of its line is slow, and where the heads differ the rest doesn't matter.
    head = bytes_of(line_head(x, y))
    if agreed(source, 0, head) < len(head):
        return head
    return bytes_of(whole_line(rules, position, x, y))


def begins_with_cell(source, cell):
    beginning = bytes_of(cell_name(cell) + "-")
    return agreed(source, 0, beginning) == len(beginning)


def moves_to_compare(rules, position, source):
    # Where the source begins with the cell of a piece that has moves, no other piece's line goes on as far.
    named = [cell for cell in own_cells(position) if begins_with_cell(source, cell)]
    moves = moves_from(rules, position, named)
    if len(moves) > 0:
        return moves
    return list_of_moves(rules, position)


def said_move(rules, position, source):
    # The move, as a tuple of its two cells, whose line the source is.
    longest = 0
    for move in moves_to_compare(rules, position, source):
        line = line_to_compare(rules, position, move[0], move[1], source)
        same = agreed(source, 0, line)
        if same == len(line) and same == len(source):
            return move
        longest = max(longest, same)
    raise LineFault(longest)
