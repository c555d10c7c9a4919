"""The calls on one object, one behind another, and their answers."""

from hallgames.game import BY_BOTH, Game
from hallgames.gametext import game_text, read_game
from hallgames.lines import LineFault, position_line, said_move
from hallgames.moves import NOT_OVER
from hallgames.reader import GrammarFault, bytes_of, is_name
from hallgames.rulestext import RulesFault, read_rules

BEGIN = 0
MOVE = 1
SAY = 2
END = 3
BACK = 4
NOW = 5
AT = 6
MADE = 7
TEXT = 8

# Of each call by its number: how many whole numbers it has, how many rows behind them.
SHAPES = ((0, 1), (2, 0), (0, 1), (1, 0), (0, 0), (0, 0), (1, 0), (1, 0), (0, 2), (0, 1))

DONE = 0
BAD_ARGUMENT = -1
NOT_THERE = -2
NO_RULES = -3
GAME_OVER = -4
BAD_TEXT = -5
BAD_RULES = -6


class Feed:
    # The list of calls, taken up from its beginning.
    def __init__(self, calls):
        self.calls = calls
        self.place = 0

    def has_more(self):
        return self.place < len(self.calls)

    def number(self):
        value = self.calls[self.place]
        self.place += 1
        return value

    def row(self):
        length = self.number()
        begun = self.place
        self.place += length
        return self.calls[begun:self.place]


def counted(row):
    return [DONE, len(row)] + row


class Desk:
    # It has no rules as long as it has no game.
    def __init__(self):
        self.game = None

    def answer(self, call, numbers, rows):
        if call == BEGIN:
            return self.begin(rows[0])
        if self.game is None:
            return [NO_RULES]
        if call == MOVE:
            return self.move(numbers[0], numbers[1])
        if call == SAY:
            return self.say(rows[0])
        if call == END:
            return self.end(numbers[0])
        if call == BACK:
            return self.back()
        if call == NOW:
            return self.now()
        if call == AT:
            return self.at(numbers[0])
        if call == MADE:
            return self.made(numbers[0])
        if call == TEXT:
            return self.text(rows[0], rows[1])
        # Of the ten calls only read is left.
        return self.read(rows[0])

    def begin(self, source):
        try:
            rules = read_rules(source)
        except RulesFault as fault:
            return [BAD_RULES, fault.kind, fault.place]
        self.game = Game(rules)
        return [DONE]

    def move(self, x, y):
        if self.game.how_over() != NOT_OVER:
            return [GAME_OVER]
        if not self.game.has_move(x, y):
            return [NOT_THERE]
        return self.make(x, y)

    def say(self, source):
        if self.game.how_over() != NOT_OVER:
            return [GAME_OVER]
        try:
            said = said_move(self.game.rules, self.game.last_position(), source)
        except LineFault as fault:
            return [BAD_TEXT, fault.place]
        return self.make(said[0], said[1])

    def make(self, x, y):
        self.game.make(x, y)
        return counted(self.game.moves[-1])

    def end(self, ended_by):
        if ended_by > BY_BOTH:
            return [BAD_ARGUMENT]
        if self.game.how_over() != NOT_OVER:
            return [GAME_OVER]
        self.game.leave(ended_by)
        return [DONE]

    def back(self):
        if self.game.take_back():
            return [DONE]
        return [NOT_THERE]

    def now(self):
        game = self.game
        count = len(game.moves)
        return self.line_at(count) + [count, game.how_over(), game.who_won(), game.last_stage().seen]

    def at(self, k):
        if k > len(self.game.moves):
            return [NOT_THERE]
        return self.line_at(k) + [self.game.stages[k].seen]

    def line_at(self, k):
        return counted(bytes_of(position_line(self.game.rules, self.game.stages[k].position)))

    def made(self, k):
        if k >= len(self.game.moves):
            return [NOT_THERE]
        return counted(self.game.moves[k])

    def text(self, hunters_name, kings_name):
        if not is_name(hunters_name) or not is_name(kings_name):
            return [BAD_ARGUMENT]
        return counted(game_text(self.game, hunters_name, kings_name))

    def read(self, source):
        try:
            game = read_game(self.game.rules, source)
        except GrammarFault as fault:
            return [BAD_TEXT, fault.place]
        self.game = game
        return [DONE]


def answers(calls):
    feed = Feed(calls)
    desk = Desk()
    told = []
    while feed.has_more():
        call = feed.number()
        numbers = [feed.number() for count in range(SHAPES[call][0])]
        rows = [feed.row() for count in range(SHAPES[call][1])]
        answer = desk.answer(call, numbers, rows)
        told.append(len(answer))
        told.extend(answer)
    return told
