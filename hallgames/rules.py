"""What a right text of rules says, and the ground that it tells of."""

# Cells are numbered 13 y + x on every ground, so that a cell's number is the same whatever the size.
SPAN = 13
CELLS = 169
NOWHERE = -1

# What x and y grow by: up, right, down, left.
DIRECTIONS = ((0, 1), (1, 0), (0, -1), (-1, 0))

PLAIN = "."
SEAT = "S"
EXIT = "X"
WALL = "#"

NOBODY = "."
HUNTER = "h"
MAN = "m"
KING = "K"

HUNTERS_SIDE = 0
KINGS_SIDE = 1

GOAL_EDGE = 0
GOAL_EXITS = 1


class Rules:
    # The name is a row of bytes; the ground and the board are texts with one sign for each of the 169 numbers that a
    # cell can have.
    def __init__(self, own_name, wide, high):
        self.own_name = own_name
        self.wide = wide
        self.high = high
        self.ground = PLAIN * CELLS
        self.board = NOBODY * CELLS
        self.first = HUNTERS_SIDE
        self.slides = 0
        self.armed = 0
        self.four = 0
        self.passed = 0
        self.seat = 0
        self.exits = 0
        self.goal = 0
        self.thrice = 0
        self.limit = 1


def next_cell(rules, cell, direction):
    x = cell % SPAN + direction[0]
    y = cell // SPAN + direction[1]
    if 0 <= x < rules.wide and 0 <= y < rules.high:
        return SPAN * y + x
    return NOWHERE


def on_edge(rules, cell):
    x = cell % SPAN
    y = cell // SPAN
    return x == 0 or y == 0 or x == rules.wide - 1 or y == rules.high - 1
