"""Calls and answers in words: cells by their names, texts as texts."""

from hallgames.desk import answers

LETTERS = "abcdefghijklm"

OPEN_GROUND = """
.......
.......
.......
...S...
.......
.......
.......
"""


def cell(name):
    return 13 * (int(name[1:]) - 1) + LETTERS.index(name[0])


def row(text):
    return [len(text)] + list(text.encode("latin-1"))


def begin(text):
    return [0] + row(text)


def move(line):
    return [1] + [cell(name) for name in line.split("-")]


def say(line):
    return [2] + row(line)


def end(h):
    return [3, h]


BACK = [4]


def parted(told):
    """The answers of one list, each as a list of its own."""
    parts = []
    place = 0
    while place < len(told):
        parts.append(told[place + 1:place + 1 + told[place]])
        place += 1 + told[place]
    assert place == len(told), "the last answer is cut off"
    return parts


def ask(*calls):
    return parted(answers([number for call in calls for number in call]))


def last(*calls):
    return ask(*calls)[-1]


def came(line, over=0, taken=""):
    """What move and say answer: line is the two cells, taken their names with blanks between."""
    told = [cell(name) for name in line.split("-")] + [over] + [cell(name) for name in taken.split()]
    return [0, len(told)] + told


def rules(start, ground=OPEN_GROUND, name="Hall", first="hunters", king="slides armed two", seat="passed quiet",
          exits="quiet", goal="edge", thrice="drawn", limit="1000"):
    ground_rows = ground.split()
    start_rows = start.split()
    lines = [f"tafl {name} {len(ground_rows[0])} {len(ground_rows)}", "ground"] + ground_rows
    lines += ["start"] + start_rows + [f"first {first}", f"king {king}", f"seat {seat}", f"exits {exits}"]
    lines += [f"goal {goal}", f"thrice {thrice}", f"limit {limit}"]
    return "".join(line + "\n" for line in lines)


def board(pieces="", wide=7, high=7):
    """Rows of signs, from words like Kd4 or hb2."""
    signs = {cell(word[1:]): word[0] for word in pieces.split()}
    rows = ["".join(signs.get(13 * y + x, ".") for x in range(wide)) for y in range(high)]
    return "\n".join(reversed(rows))


def hall(pieces, ground="Sd4", wide=7, high=7, **words):
    """A begin for pieces and ground both told in words like Kd4, Xa1, #c3."""
    return begin(rules(board(pieces, wide, high), board(ground, wide, high), **words))
