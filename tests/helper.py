"""Calls and answers in words: cells by their names, texts as texts; and games to try them on."""

from hallgames.desk import answers

LETTERS = "abcdefghijklm"

OPEN_GROUND = """
.......
.......
.......
...S...
.......
.......
.......
"""


def cell(name):
    return 13 * (int(name[1:]) - 1) + LETTERS.index(name[0])


def row(text):
    return [len(text)] + list(text.encode("latin-1"))


def begin(text):
    return [0] + row(text)


def move(line):
    return [1] + [cell(name) for name in line.split("-")]


def say(line):
    return [2] + row(line)


def end(h):
    return [3, h]


BACK = [4]
NOW = [5]


def at(k):
    return [6, k]


def made(k):
    return [7, k]


def text(hunters="Ann", king="Bo"):
    return [8] + row(hunters) + row(king)


def read(game):
    return [9] + row(game)


def moves(*lines):
    return [move(line) for line in lines]


def says(*lines):
    return [say(line) for line in lines]


def parted(told):
    """The answers of one list, each as a list of its own."""
    parts = []
    place = 0
    while place < len(told):
        parts.append(told[place + 1:place + 1 + told[place]])
        place += 1 + told[place]
    assert place == len(told), "the last answer is cut off"
    return parts


def ask(*calls):
    return parted(answers([number for call in calls for number in call]))


def last(*calls):
    return ask(*calls)[-1]


def came(line, over=0, taken=""):
    """What move and say answer: line is the two cells, taken their names with blanks between."""
    told = [cell(name) for name in line.split("-")] + [over] + [cell(name) for name in taken.split()]
    return [0, len(told)] + told


def now_told(line, count=0, over=0, won=3, seen=1):
    return [0] + row(line) + [count, over, won, seen]


def at_told(line, seen=1):
    return [0] + row(line) + [seen]


def text_told(game):
    return [0] + row(game)


def game(*lines, end="open open", names="Ann Bo", hall="Hall"):
    """A game's text, from its moves' lines and the words of its end."""
    return f"game {names}\nrules {hall}\n" + "".join(line + "\n" for line in lines) + f"end {end}\n"


def rules(start, ground=OPEN_GROUND, name="Hall", first="hunters", king="slides armed two", seat="passed quiet",
          exits="quiet", goal="edge", thrice="drawn", limit="1000"):
    ground_rows = ground.split()
    start_rows = start.split()
    lines = [f"tafl {name} {len(ground_rows[0])} {len(ground_rows)}", "ground"] + ground_rows
    lines += ["start"] + start_rows + [f"first {first}", f"king {king}", f"seat {seat}", f"exits {exits}"]
    lines += [f"goal {goal}", f"thrice {thrice}", f"limit {limit}"]
    return "".join(line + "\n" for line in lines)


def board(pieces="", wide=7, high=7):
    """Rows of signs, from words like Kd4 or hb2."""
    signs = {cell(word[1:]): word[0] for word in pieces.split()}
    rows = ["".join(signs.get(13 * y + x, ".") for x in range(wide)) for y in range(high)]
    return "\n".join(reversed(rows))


def hall(pieces, ground="Sd4", wide=7, high=7, **words):
    """A begin for pieces and ground both told in words like Kd4, Xa1, #c3."""
    return begin(rules(board(pieces, wide, high), board(ground, wide, high), **words))


ROUND = ("b2-b3", "d5-d4", "b3-b2", "d4-d5")


def open_hall(**words):
    return hall("hb2 hf2 Kd5", "", **words)


OPEN_HALL = open_hall()
TAKING_HALL = hall("hd1 mc3 hb3 me3 hf3 md4 hd5 Kf6 mg1", "")
TAKING_LINES = ("d1-d3xc3,e3,d4", "g1-g2", "b3-b2")
# Nobody of the king's side can move once a hunter has waited, or nobody of the hunters'.
KING_SHUT_IN = hall("hc3 hb4 hb1 Kb3 hg7", "#a3 #b2", king="slides bare four")
HUNTERS_SHUT_IN = hall("ha1 ma2 mb3 Kd5", "", first="king")


class Sample:
    """A game: its begin, its moves' lines, what ends it, how it's over by then, who has won."""

    def __init__(self, begin, lines=(), ending=None, over=0, won=3):
        self.begin = begin
        self.lines = lines
        self.ending = ending
        self.over = over
        self.won = won

    def words(self):
        who = ("hunters", "king", "drawn", "open")[self.won]
        how = ("open", "taken", "goal", "stuck", "thrice", "limit", "given", "agreed")[self.over]
        return f"{who} {how}"

    def ends(self):
        return [] if self.ending is None else [end(self.ending)]

    def by_move(self):
        return [self.begin] + moves(*[line.split("x")[0].split("#")[0] for line in self.lines]) + self.ends()

    def by_say(self):
        return [self.begin] + says(*self.lines) + self.ends()


# Each way to be over or ended.
SAMPLES = (
    Sample(OPEN_HALL),
    Sample(OPEN_HALL, ROUND + ROUND[:3]),
    Sample(TAKING_HALL, TAKING_LINES),
    Sample(hall("hb2 Kc4 hd4 mf6", ""), ("b2-b4xc4#1",), None, 1, 0),
    Sample(hall("hb2 Kd5", "", first="king"), ("d5-d6", "b2-b3", "d6-d7#2"), None, 2, 1),
    Sample(hall("hb2 Kd5", "Xd7", goal="exits"), ("b2-b3", "d5-d7#2"), None, 2, 1),
    Sample(HUNTERS_SHUT_IN, ("b3-b1#3",), None, 3, 1),
    Sample(hall("hc4 mb2 md4 Ke6", "", first="king"), ("b2-b4xc4#3",), None, 3, 1),
    Sample(KING_SHUT_IN, ("g7-g6#3",), None, 3, 0),
    Sample(hall("ha1 ma2 mb1 Kd5", ""), (), None, 3, 1),
    Sample(hall("hc3 hb4 Kb3", "#a3 #b2", king="slides bare four", first="king"), (), None, 3, 0),
    Sample(open_hall(thrice="drawn"), ROUND + ROUND, None, 4, 2),
    Sample(open_hall(thrice="hunters"), ROUND + ROUND, None, 4, 1),
    Sample(open_hall(thrice="king"), ROUND + ROUND, None, 4, 0),
    Sample(open_hall(limit="3"), ROUND[:3], None, 5, 2),
    Sample(open_hall(limit="1"), ("b2-a2",), None, 5, 2),
    Sample(OPEN_HALL, (), 0, 6, 1),
    Sample(OPEN_HALL, (), 1, 6, 0),
    Sample(OPEN_HALL, (), 2, 7, 2),
    Sample(OPEN_HALL, ROUND[:1], 0, 6, 1),
    Sample(OPEN_HALL, ROUND[:1], 1, 6, 0),
    Sample(OPEN_HALL, ROUND[:1], 2, 7, 2),
    Sample(TAKING_HALL, TAKING_LINES, 0, 6, 1),
    Sample(open_hall(thrice="hunters"), ROUND + ROUND[:3], 1, 6, 0),
)
