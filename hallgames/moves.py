"""Positions, their moves, and what comes of a move."""

from hallgames.rules import DIRECTIONS, EXIT, GOAL_EDGE, HUNTER, HUNTERS_SIDE, KING, MAN, NOBODY, NOWHERE
from hallgames.rules import PLAIN, SEAT, WALL, next_cell, on_edge

# An enmity (0 quiet, 1 hunters, 2 men, 3 all) has one bit for each side that it is against.
AGAINST_HUNTERS = 1
AGAINST_MEN = 2

NOT_OVER = 0
KING_TAKEN = 1
GOAL_REACHED = 2
STUCK = 3


class Position:
    # The board is a text with one sign for each number that a cell can have.
    def __init__(self, board, turn):
        self.board = board
        self.turn = turn


class Outcome:
    # The position that a move comes to, and the cells, rising, whose pieces it takes.
    def __init__(self, position, taken):
        self.position = position
        self.taken = taken


def is_of_side(piece, side):
    if side == HUNTERS_SIDE:
        return piece == HUNTER
    return piece == MAN or piece == KING


def own_cells(position):
    # The cells, rising, that have a piece of the side whose turn it is.
    return [cell for cell in range(len(position.board)) if is_of_side(position.board[cell], position.turn)]


def is_free(rules, board, cell):
    return cell != NOWHERE and rules.ground[cell] != WALL and board[cell] == NOBODY


def stops_on(rules, piece, cell):
    return piece == KING or rules.ground[cell] == PLAIN


def goes_over(rules, piece, cell):
    if piece == KING:
        return rules.slides == 1
    if rules.ground[cell] == SEAT:
        return rules.passed == 1
    return rules.ground[cell] != EXIT


def targets_towards(rules, board, cell, direction):
    piece = board[cell]
    found = []
    there = next_cell(rules, cell, direction)
    while is_free(rules, board, there):
        if stops_on(rules, piece, there):
            found.append(there)
        if not goes_over(rules, piece, there):
            break
        there = next_cell(rules, there, direction)
    return found


def targets(rules, position, cell):
    # The cells, rising, that the move of this cell's piece can come to: none if it isn't that side's turn.
    found = []
    if is_of_side(position.board[cell], position.turn):
        for direction in DIRECTIONS:
            found.extend(targets_towards(rules, position.board, cell, direction))
    return sorted(found)


def moves_from(rules, position, cells):
    # Those that begin on these cells, each as a tuple of its two cells. The position must not be over by 1 or 2.
    found = []
    for x in cells:
        found.extend([(x, y) for y in targets(rules, position, x)])
    return found


def list_of_moves(rules, position):
    # In their order.
    return moves_from(rules, position, own_cells(position))


def can_move(rules, position):
    for cell in own_cells(position):
        if len(targets(rules, position, cell)) > 0:
            return True
    return False


def is_against(rules, board, piece, cell):
    enmity = 0
    if rules.ground[cell] == SEAT and board[cell] == NOBODY:
        enmity = rules.seat
    if rules.ground[cell] == EXIT:
        enmity = rules.exits
    side = AGAINST_HUNTERS if piece == HUNTER else AGAINST_MEN
    return enmity & side > 0


def helps_against(rules, piece, helper):
    if piece != HUNTER:
        return helper == HUNTER
    return helper == MAN or (helper == KING and rules.armed == 1)


def is_held(rules, board, piece, cell):
    # Whether this cell, by who stands there or by itself, holds the piece beside it.
    if cell == NOWHERE:
        return False
    return helps_against(rules, piece, board[cell]) or is_against(rules, board, piece, cell)


def is_surrounded(rules, board, cell):
    # A neighbour that isn't on the ground holds nobody, so the king is safe where he has fewer than four.
    return all([is_held(rules, board, KING, next_cell(rules, cell, direction)) for direction in DIRECTIONS])


def is_taken(rules, board, cell, direction):
    # Whether the piece on this cell is taken by one that has come beside it, moved on from there in this direction.
    piece = board[cell]
    if piece == KING and rules.four == 1:
        return is_surrounded(rules, board, cell)
    return is_held(rules, board, piece, next_cell(rules, cell, direction))


def taken_cells(rules, board, cell, turn):
    # The board is as it stands when the piece has come to the cell, with all that are taken still there.
    found = []
    if board[cell] == KING and rules.armed == 0:
        return found
    for direction in DIRECTIONS:
        beside = next_cell(rules, cell, direction)
        if beside != NOWHERE and is_of_side(board[beside], 1 - turn) and is_taken(rules, board, beside, direction):
            found.append(beside)
    return sorted(found)


def outcome(rules, position, x, y):
    cells = list(position.board)
    cells[y] = cells[x]
    cells[x] = NOBODY
    taken = taken_cells(rules, cells, y, position.turn)
    for cell in taken:
        cells[cell] = NOBODY
    return Outcome(Position("".join(cells), 1 - position.turn), taken)


def is_on_goal(rules, cell):
    if rules.goal == GOAL_EDGE:
        return on_edge(rules, cell)
    return rules.ground[cell] == EXIT


def position_over(rules, position):
    king = position.board.find(KING)
    if king == NOWHERE:
        return KING_TAKEN
    if is_on_goal(rules, king):
        return GOAL_REACHED
    if not can_move(rules, position):
        return STUCK
    return NOT_OVER
