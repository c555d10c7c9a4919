"""Games' texts: writes them, and reads them up to the first place where no game's text goes on."""

from hallgames.game import BY_BOTH, Game, how_over_if, who_won_if
from hallgames.lines import LineFault, said_move
from hallgames.moves import NOT_OVER
from hallgames.reader import GrammarFault, Reader, bytes_of
from hallgames.rules import HUNTERS_SIDE, KINGS_SIDE

# By the number of who has won.
WHO_WORDS = ("hunters", "king", "drawn", "open")

# By the number of how it's over.
HOW_WORDS = ("open", "taken", "goal", "stuck", "thrice", "limit", "given", "agreed")

# What every end begins with and no move's line does, though one may begin with its first sign.
END_BEGINNING = "en"


def end_line(rules, stage, ended_by):
    who = WHO_WORDS[who_won_if(rules, stage, ended_by)]
    how = HOW_WORDS[how_over_if(stage, ended_by)]
    return f"end {who} {how}\n"


def game_text(game, hunters_name, kings_name):
    # Names and text are rows of bytes.
    names = bytes_of("game ") + hunters_name + bytes_of(" ") + kings_name + bytes_of("\nrules ") + game.rules.own_name
    lines = "".join([line + "\n" for line in game.lines])
    return names + bytes_of("\n" + lines + end_line(game.rules, game.last_stage(), game.ended_by))


def read_game(rules, source):
    # What is no text of a game by these rules raises a GrammarFault with its place.
    reader = Reader(source)
    game = Game(rules)
    read_names(reader, rules)
    while game.how_over() == NOT_OVER and reader.agreed_with(END_BEGINNING) < len(END_BEGINNING):
        read_move(reader, game)
    read_end(reader, game)
    reader.finish()
    return game


def read_names(reader, rules):
    reader.word("game ")
    reader.name()
    reader.word(" ")
    reader.name()
    reader.word("\nrules ")
    reader.row(rules.own_name)
    reader.word("\n")


def read_move(reader, game):
    line = reader.line_ahead()
    try:
        said = said_move(game.rules, game.last_position(), line)
    except LineFault as fault:
        raise GrammarFault(reader.place + max(fault.place, reader.agreed_with(END_BEGINNING))) from None
    reader.row(line)
    reader.word("\n")
    game.make(said[0], said[1])


def read_end(reader, game):
    stage = game.last_stage()
    endings = [None]
    if stage.over == NOT_OVER:
        endings = [None, HUNTERS_SIDE, KINGS_SIDE, BY_BOTH]
    number = reader.choice([end_line(game.rules, stage, ended_by) for ended_by in endings])
    game.leave(endings[number])
