"""A game by rules: its row of moves, and how it was ended."""

from hallgames.lines import move_line
from hallgames.moves import GOAL_REACHED, KING_TAKEN, NOT_OVER, STUCK, Position, outcome, position_over, targets
from hallgames.rules import HUNTERS_SIDE, KINGS_SIDE

SEEN_THRICE = 4
LIMIT_REACHED = 5
GIVEN_UP = 6
LEFT_DRAWN = 7

TIMES_TO_END = 3

# What a game was ended by: the number of the side that gave up, or this.
BY_BOTH = 2

# Who has won: the number of the side, or one of these.
DRAWN = 2
STILL_OPEN = 3

# Who has won by thrice, for each thing that the rules can say of it: the side that they name has lost.
THRICE_WINNERS = (2, 1, 0)


class Stage:
    # What holds of a game after some moves: the position, how often it was seen by then, how it's over by the moves.
    def __init__(self, position, seen, over):
        self.position = position
        self.seen = seen
        self.over = over


def how_over_if(stage, ended_by):
    if ended_by is None:
        return stage.over
    if ended_by == BY_BOTH:
        return LEFT_DRAWN
    return GIVEN_UP


def who_won_if(rules, stage, ended_by):
    over = how_over_if(stage, ended_by)
    if over == NOT_OVER:
        return STILL_OPEN
    if over == KING_TAKEN:
        return HUNTERS_SIDE
    if over == GOAL_REACHED:
        return KINGS_SIDE
    if over == STUCK:
        return 1 - stage.position.turn
    if over == SEEN_THRICE:
        return THRICE_WINNERS[rules.thrice]
    if over == GIVEN_UP:
        return 1 - ended_by
    return DRAWN


class Game:
    # The stages are those after 0, 1, 2 .. moves; the moves are the lists that are told of them, the lines their lines.
    def __init__(self, rules):
        self.rules = rules
        self.stages = []
        self.moves = []
        self.lines = []
        self.times = {}
        self.ended_by = None
        self.reach(Position(rules.board, rules.first))

    def last_stage(self):
        return self.stages[-1]

    def last_position(self):
        return self.last_stage().position

    def how_over(self):
        return how_over_if(self.last_stage(), self.ended_by)

    def who_won(self):
        return who_won_if(self.rules, self.last_stage(), self.ended_by)

    def has_move(self, x, y):
        position = self.last_position()
        return x < len(position.board) and y in targets(self.rules, position, x)

    def reach(self, position):
        key = (position.board, position.turn)
        seen = self.times.get(key, 0) + 1
        self.times[key] = seen
        self.stages.append(Stage(position, seen, self.over_there(position, seen)))

    def over_there(self, position, seen):
        # The position is not among the stages yet, so there are as many of these as moves up to it.
        over = position_over(self.rules, position)
        if over != NOT_OVER:
            return over
        if seen >= TIMES_TO_END:
            return SEEN_THRICE
        if len(self.stages) >= self.rules.limit:
            return LIMIT_REACHED
        return NOT_OVER

    def make(self, x, y):
        come = outcome(self.rules, self.last_position(), x, y)
        self.reach(come.position)
        told = [x, y, self.last_stage().over] + come.taken
        self.moves.append(told)
        self.lines.append(move_line(told))

    def leave(self, ended_by):
        self.ended_by = ended_by

    def take_back(self):
        # Whether there was anything to take back.
        if self.ended_by is not None:
            self.ended_by = None
            return True
        if len(self.moves) == 0:
            return False
        stage = self.stages.pop()
        self.times[(stage.position.board, stage.position.turn)] = stage.seen - 1
        self.moves.pop()
        self.lines.pop()
        return True
