"""A game by rules: its row of moves, and how it was ended."""

from hallgames.moves import NOT_OVER, Position, outcome, position_over, targets

SEEN_THRICE = 4
LIMIT_REACHED = 5
GIVEN_UP = 6
LEFT_DRAWN = 7

TIMES_TO_END = 3

# What a game was ended by: the number of the side that gave up, or this.
BY_BOTH = 2


class Game:
    # The positions are those after 0, 1, 2 .. moves; the moves are the lists that are told of them.
    def __init__(self, rules):
        self.rules = rules
        self.positions = [Position(rules.board, rules.first)]
        self.moves = []
        self.ended_by = None

    def last_position(self):
        return self.positions[-1]

    def has_move(self, x, y):
        position = self.last_position()
        return x < len(position.board) and y in targets(self.rules, position, x)

    def times_seen(self):
        last = self.last_position()
        return len([one for one in self.positions if one.board == last.board and one.turn == last.turn])

    def over_by_moves(self):
        over = position_over(self.rules, self.last_position())
        if over != NOT_OVER:
            return over
        if self.times_seen() >= TIMES_TO_END:
            return SEEN_THRICE
        if len(self.positions) - 1 >= self.rules.limit:
            return LIMIT_REACHED
        return NOT_OVER

    def how_over(self):
        if self.ended_by is None:
            return self.over_by_moves()
        if self.ended_by == BY_BOTH:
            return LEFT_DRAWN
        return GIVEN_UP

    def make(self, x, y):
        come = outcome(self.rules, self.last_position(), x, y)
        self.positions.append(come.position)
        told = [x, y, self.over_by_moves()] + come.taken
        self.moves.append(told)

    def leave(self, ended_by):
        self.ended_by = ended_by

    def take_back(self):
        # Whether there was anything to take back.
        if self.ended_by is not None:
            self.ended_by = None
            return True
        if len(self.moves) == 0:
            return False
        self.moves.pop()
        self.positions.pop()
        return True
