"""The calls on one object, one behind another, and their answers."""

from hallgames.game import BY_BOTH, Game
from hallgames.lines import LineFault, said_move
from hallgames.moves import NOT_OVER
from hallgames.rulestext import RulesFault, read_rules

BEGIN = 0
MOVE = 1
SAY = 2
END = 3
BACK = 4

# Of each call by its number: how many whole numbers it has, how many rows behind them.
SHAPES = ((0, 1), (2, 0), (0, 1), (1, 0), (0, 0), (0, 0), (1, 0), (1, 0), (0, 2), (0, 1))

DONE = 0
BAD_NUMBER = -1
NOT_THERE = -2
NO_RULES = -3
GAME_OVER = -4
BAD_LINE = -5
BAD_RULES = -6


class Feed:
    # The list of calls, taken up from its beginning.
    def __init__(self, calls):
        self.calls = calls
        self.place = 0

    def has_more(self):
        return self.place < len(self.calls)

    def number(self):
        value = self.calls[self.place]
        self.place += 1
        return value

    def row(self):
        length = self.number()
        begun = self.place
        self.place += length
        return self.calls[begun:self.place]


class Desk:
    # It has no rules as long as it has no game.
    def __init__(self):
        self.game = None

    def answer(self, call, numbers, rows):
        if call == BEGIN:
            return self.begin(rows[0])
        if self.game is None:
            return [NO_RULES]
        if call == MOVE:
            return self.move(numbers[0], numbers[1])
        if call == SAY:
            return self.say(rows[0])
        if call == END:
            return self.end(numbers[0])
        if call == BACK:
            return self.back()
        raise NotImplementedError("this call is not built yet")

    def begin(self, source):
        try:
            rules = read_rules(source)
        except RulesFault as fault:
            return [BAD_RULES, fault.kind, fault.place]
        self.game = Game(rules)
        return [DONE]

    def move(self, x, y):
        if self.game.how_over() != NOT_OVER:
            return [GAME_OVER]
        if not self.game.has_move(x, y):
            return [NOT_THERE]
        return self.make(x, y)

    def say(self, source):
        if self.game.how_over() != NOT_OVER:
            return [GAME_OVER]
        try:
            said = said_move(self.game.rules, self.game.last_position(), source)
        except LineFault as fault:
            return [BAD_LINE, fault.place]
        return self.make(said[0], said[1])

    def make(self, x, y):
        self.game.make(x, y)
        told = self.game.moves[-1]
        return [DONE, len(told)] + told

    def end(self, ended_by):
        if ended_by > BY_BOTH:
            return [BAD_NUMBER]
        if self.game.how_over() != NOT_OVER:
            return [GAME_OVER]
        self.game.leave(ended_by)
        return [DONE]

    def back(self):
        if self.game.take_back():
            return [DONE]
        return [NOT_THERE]


def answers(calls):
    feed = Feed(calls)
    desk = Desk()
    told = []
    while feed.has_more():
        call = feed.number()
        numbers = [feed.number() for count in range(SHAPES[call][0])]
        rows = [feed.row() for count in range(SHAPES[call][1])]
        answer = desk.answer(call, numbers, rows)
        told.append(len(answer))
        told.extend(answer)
    return told
