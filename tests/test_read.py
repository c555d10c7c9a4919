"""read: a game's text becomes the game, or has one place of fault."""

import unittest

from helper import BACK, HUNTERS_SHUT_IN, KING_SHUT_IN, LETTERS, NOW, OPEN_HALL, ROUND, SAMPLES, TAKING_HALL
from helper import TAKING_LINES, ask, at, at_told, came, end, game, hall, last, made, move, moves, now_told
from helper import open_hall, read, say, text, text_told

LONGEST = "Abcdefghijklmno6"
OPEN_ENDS = ("open open", "king given", "hunters given", "drawn agreed")
ALL_ENDS = [f"{who} {how}" for who in ("hunters", "king", "drawn", "open")
            for how in ("taken", "goal", "stuck", "thrice", "limit", "given", "agreed", "open")]
HEAD = "game Ann Bo\nrules Hall\n"


def agreed(one, other):
    same = 0
    while same < min(len(one), len(other)) and one[same] == other[same]:
        same += 1
    return same


class RightTexts(unittest.TestCase):
    def test_each_sample(self):
        for sample in SAMPLES:
            told = ask(sample.begin, read(game(*sample.lines, end=sample.words())), text(), NOW)
            self.assertEqual(told[1], [0], sample.words())
            self.assertEqual(told[2], text_told(game(*sample.lines, end=sample.words())))
            self.assertEqual(told[3], last(*sample.by_move(), NOW))

    def test_what_text_told_into_the_same_and_into_another_object(self):
        for sample in SAMPLES:
            written = ask(*sample.by_say(), text(), NOW)
            source = bytes(written[-2][2:]).decode()
            for calls in (sample.by_say(), [sample.begin], [sample.begin, end(2)],
                          [OPEN_HALL, move("b2-b3"), sample.begin]):
                self.assertEqual(ask(*calls, read(source), text(), NOW)[-3:], [[0]] + written[-2:])

    def test_each_end_where_it_is_not_over(self):
        for lines in ((), ROUND[:1], ROUND, ROUND + ROUND[:3]):
            for words, over, won in zip(OPEN_ENDS, (0, 6, 6, 7), (3, 1, 0, 2)):
                told = ask(OPEN_HALL, read(game(*lines, end=words)), NOW)
                self.assertEqual([told[1], told[2][-4:-1]], [[0], [len(lines), over, won]])

    def test_any_two_names(self):
        for name in ("A", "z", "a0", "Z9", "game", "rules", "end", LONGEST):
            for names in (f"{name} Bo", f"Ann {name}", f"{name} {name}"):
                self.assertEqual(ask(OPEN_HALL, read(game("b2-b3", names=names)), text())[1:],
                                 [[0], text_told(game("b2-b3"))])

    def test_whatever_the_game_was(self):
        for sample in SAMPLES:
            if sample.begin == OPEN_HALL:
                self.assertEqual(ask(*sample.by_move(), read(game("b2-b3")), text())[-2:], [[0], text_told(game("b2-b3"))])
        over = [hall("hb2 Kd5", "", first="king"), move("d5-d7")]
        self.assertEqual(ask(*over, read(game()), NOW)[2:], [[0], now_told("7/7/3K3/7/7/1h5/7 k")])

    def test_moves_from_the_fifth_column(self):
        one = hall("he2 hb2 Kd5", "")
        for lines in (("e2-e3",), ("e2-e3", "d5-e5", "b2-b3"), ("b2-b3", "d5-e5", "e2-e1", "e5-d5", "e1-e2")):
            for words in OPEN_ENDS:
                self.assertEqual(ask(one, read(game(*lines, end=words)), text())[1:],
                                 [[0], text_told(game(*lines, end=words))])

    def test_lines_that_begin_alike(self):
        one = hall("ha5 Kd5", "", 13, 13)
        for line in ("a5-a1", "a5-a10", "a5-a13"):
            self.assertEqual(ask(one, read(game(line)), made(0))[1:], [[0], came(line)])

    def test_as_many_moves_as_the_limit(self):
        one = open_hall(limit="4")
        self.assertEqual(ask(one, read(game(*ROUND, end="drawn limit")), NOW)[2][-4:], [4, 5, 2, 2])
        for words in OPEN_ENDS:
            self.assertEqual(last(one, read(game(*ROUND[:3], end=words))), [0])

    def test_a_long_game(self):
        lines = long_lines()
        pieces = "ha1 ha2 ha3 Kg9 mk11"
        one = hall(pieces, "", 13, 13, king="slides bare two", limit="60000")
        source = game(*lines)
        self.assertGreater(len(source), 25000)
        told = ask(one, read(source), text(), NOW, made(len(lines) - 1), BACK, read(source[:-1]), read(source + "\n"))
        self.assertEqual(told[1:3], [[0], text_told(source)])
        self.assertEqual(told[3][-4:], [len(lines), 0, 3, 1])
        self.assertEqual(told[4:], [came(lines[-1]), [0], [-5, len(source) - 1], [-5, len(source)]])


def long_lines():
    """Three hunters each in a row of its own, one cell at a time so that they never stand twice alike; a man waits."""
    places = [0, 0, 0]
    ways = [1, 1, 1]
    lines = []
    while True:
        row = 0
        while row < 3 and not 0 <= places[row] + ways[row] < 13:
            ways[row] = -ways[row]
            row += 1
        if row == 3 or len(lines) > 4000:
            return lines
        before = LETTERS[places[row]]
        places[row] += ways[row]
        lines.append(f"{before}{row + 1}-{LETTERS[places[row]]}{row + 1}")
        lines.append("k11-k12" if len(lines) % 4 == 1 else "k12-k11")


class Faults(unittest.TestCase):
    def faulty(self, source, place, one=OPEN_HALL):
        self.assertEqual(ask(one, read(source), NOW)[1:], [[-5, place], last(one, NOW)], source)

    def changed(self, old, new, within, one=OPEN_HALL, source=game(*ROUND)):
        """The text with new in the place of the first old, at fault so many bytes behind its beginning."""
        self.assertIn(old, source)
        self.faulty(source.replace(old, new, 1), source.index(old) + within, one)

    def test_cut_off(self):
        for sample in SAMPLES:
            source = game(*sample.lines, end=sample.words())
            told = ask(sample.begin, *[read(source[:length]) for length in range(len(source))])
            self.assertEqual(told[1:], [[-5, length] for length in range(len(source))])

    def test_a_byte_that_goes_nowhere(self):
        for sample in SAMPLES:
            source = game(*sample.lines, end=sample.words())
            for byte in "\x00\xff\r_":
                changed = [source[:place] + byte + source[place + 1:] for place in range(len(source))]
                told = ask(sample.begin, *[read(one) for one in changed])
                self.assertEqual(told[1:], [[-5, place] for place in range(len(source))])

    def test_behind_the_end(self):
        for sample in SAMPLES:
            source = game(*sample.lines, end=sample.words())
            for more in ("\n", " ", "e", "b2-b3\n", "end open open\n", source, "\x00"):
                self.faulty(source + more, len(source), sample.begin)

    def test_the_first_word(self):
        self.changed("game ", "Game ", 0)
        self.changed("game ", "games ", 4)
        self.changed("game ", " game ", 0)
        self.changed("game ", "gamut ", 3)
        self.faulty("", 0)
        self.faulty("end open open\n", 0)
        self.faulty("rules Hall\nend open open\n", 0)

    def test_the_names(self):
        for old, behind in (("Ann", " "), ("Bo", "\n")):
            self.changed(old, "", 0)
            self.changed(old, "7nn", 0)
            self.changed(old, " Ann", 0)
            self.changed(old, "A-n", 1)
            self.changed(old, LONGEST + "7", 16)
            self.changed(old, LONGEST + "p", 16)
            self.changed(old + behind, old + "!", len(old))
            for sign in "@[`{/:":
                self.changed(old, sign, 0)
                self.changed(old, "A" + sign, 1)
        self.changed("Ann Bo", "Ann", 3)
        self.changed("Ann Bo", "Ann Bo Cy", 6)
        self.changed("Ann Bo", "Ann  Bo", 4)
        self.changed("Ann Bo", "Ann Bo ", 6)

    def test_the_rules_name(self):
        self.changed("rules", "rule", 4)
        self.changed("rules", "Rules", 0)
        self.changed("Hall", "", 0)
        self.changed("Hall", "hall", 0)
        self.changed("Hall", "Hal", 3)
        self.changed("Hall", "Halls", 4)
        self.changed("Hall", "Ha1l", 2)
        self.changed("Hall", "Other", 0)
        self.changed("Hall", "Hall ", 4)
        one = hall("hb2 hf2 Kd5", "", name=LONGEST)
        self.faulty(game(hall=LONGEST + "7"), len("game Ann Bo\nrules ") + 16, one)
        self.faulty(game(hall=LONGEST[:15]), len("game Ann Bo\nrules ") + 15, one)

    def test_other_rules(self):
        source = game(*ROUND)
        self.faulty(source, source.index("Hall"), hall("hb2 hf2 Kd5", "", name="Other"))
        self.faulty(source, source.index("b3\n") + 1, hall("hb2 hf2 hb3 Kd5", ""))
        self.faulty(source, source.index("b2-b3"), hall("hb2 hf2 Kd5", "", first="king"))

    def test_a_moves_first_cell(self):
        for new, within in (("c2-c3", 0), ("d5-d6", 0), ("", 0), ("b3-b4", 1), ("b1-b2", 1), ("f3-f2", 1), ("-b3", 0),
                            ("B2-b3", 0), ("b22-b3", 2), ("b02-b3", 1), (" b2-b3", 0), ("b2b3", 2), ("b2_b3", 2)):
            self.changed("b2-b3", new, within)
        for new, within in (("b3-b4", 0), ("f2-f3", 0), ("d4-d5", 1), ("d55-d4", 2)):
            self.changed("d5-d4", new, within)

    def test_a_moves_second_cell(self):
        for new, within in (("b2-b2", 4), ("b2-c3", 4), ("b2-f2", 3), ("b2-b8", 4), ("b2-b0", 4), ("b2-", 3), ("b2-b", 4),
                            ("b2-d5", 4), ("b2-b33", 5), ("b2-b3 ", 5), ("b2-b3\r", 5), ("b2-b3-b4", 5), ("b2-h2", 3)):
            self.changed("b2-b3", new, within)

    def test_what_it_takes(self):
        source = game(*TAKING_LINES)
        for new, within in (("d1-d3", 5), ("d1-d3x", 6), ("d1-d3xc3", 8), ("d1-d3xc3,", 9), ("d1-d3xc3,d4,e3", 9),
                            ("d1-d3xc3,e3", 11), ("d1-d3xc3,e3,d4,f6", 14), ("d1-d3xe3,c3,d4", 6), ("d1-d3xc3;e3,d4", 8),
                            ("d1-d3#1", 5), ("d1-d3xc3,e3,d4#1", 14), ("d1-d3xc4", 7)):
            self.changed(TAKING_LINES[0], new, within, TAKING_HALL, source)
        self.changed("g1-g2", "g1-g2xf2", 5, TAKING_HALL, source)

    def test_how_it_is_over(self):
        taken = (hall("hb2 Kc4 hd4 mf6", ""), game("b2-b4xc4#1", end="hunters taken"))
        for new, within in (("b2-b4xc4", 8), ("b2-b4xc4#", 9), ("b2-b4xc4#2", 9), ("b2-b4xc4#0", 9), ("b2-b4xc4#11", 10),
                            ("b2-b4xc4#1 ", 10), ("b2-b4#1", 5)):
            self.changed("b2-b4xc4#1", new, within, *taken)
        goal = (hall("hb2 Kd5", "", first="king"), game("d5-d7#2", end="king goal"))
        for new, within in (("d5-d7", 5), ("d5-d7#", 6), ("d5-d7#1", 6), ("d5-d7#3", 6), ("d5-d6#2", 5)):
            self.changed("d5-d7#2", new, within, *goal)
        for one, line, words in ((HUNTERS_SHUT_IN, "b3-b1", "king stuck"), (KING_SHUT_IN, "g7-g6", "hunters stuck")):
            stuck = (one, game(line + "#3", end=words))
            for new, within in ((line, 5), (line + "#", 6), (line + "#1", 6), (line + "#2", 6)):
                self.changed(line + "#3", new, within, *stuck)
        self.changed("b2-b3", "b2-b3#4", 5)
        self.changed("b2-b3", "b2-b3#5", 5, open_hall(limit="1"), game("b2-b3", end="drawn limit"))
        thrice = game(*ROUND, *ROUND[:3]).replace("end open open\n", "d4-d5#4\nend drawn thrice\n")
        self.faulty(thrice, thrice.index("#4"))

    def test_the_end_where_it_is_not_over(self):
        for lines in ((), ROUND[:1], ROUND):
            for words in ALL_ENDS:
                if words not in OPEN_ENDS:
                    place = max(agreed(words + "\n", right + "\n") for right in OPEN_ENDS)
                    source = game(*lines, end=words)
                    self.faulty(source, source.index("end ") + 4 + place)

    def test_the_end_where_it_is_over(self):
        for sample in SAMPLES:
            if 1 <= sample.over <= 5:
                for words in ALL_ENDS:
                    source = game(*sample.lines, end=words)
                    if words == sample.words():
                        self.assertEqual(last(sample.begin, read(source)), [0])
                    else:
                        place = source.index("end ") + 4 + agreed(words + "\n", sample.words() + "\n")
                        self.faulty(source, place, sample.begin)

    def test_the_ends_words(self):
        for new, within in (("end open", 8), ("end open ", 9), ("end open given", 9), ("end king open", 9),
                            ("end hunters goal", 13), ("end drawn given", 10), ("end drawn open", 10), ("end drown", 6),
                            ("end kings given", 8), ("end open opens", 13), ("end open open ", 13), ("end  open open", 4),
                            ("end", 3), ("ends", 3), ("en", 2), ("eng", 2), ("End open open", 0), ("", 0), ("end men", 4),
                            ("end open open#", 13), ("end agreed drawn", 4)):
            self.changed("end open open", new, within)

    def test_an_end_begins_like_a_cell(self):
        for new, within in (("e", 1), ("e2-e3", 1), ("ex", 1), ("e\n", 1), ("ee", 1)):
            self.changed("end open open", new, within)
            self.changed("b2-b3", new, within)
        one = hall("he2 hf2 Kd5", "")
        for rest, within in (("e", 1), ("e2", 2), ("e2-", 3), ("e2-e2", 4), ("e3-e4", 1), ("en2", 2), ("e2nd", 2),
                             ("end", 3), ("end-", 3), ("e2-end", 4), ("e1", 1), ("f", 1), ("n", 0)):
            self.faulty(HEAD + rest, len(HEAD) + within, one)
        over = hall("he2 Kd5", "", limit="1")
        source = game("e2-e3", end="drawn limit")
        for rest, within in (("e3-e4", 1), ("e", 1), ("en", 2), ("d5-d6", 0), ("end open", 4)):
            self.faulty(source[:source.index("end ")] + rest, source.index("end ") + within, over)

    def test_a_move_that_cannot_be(self):
        self.faulty(game("b2-b3", "b3-b4"), len(HEAD) + 6)
        self.faulty(game("b2-b3", "d5-d4", "b2-b3"), len(HEAD) + 13)
        self.faulty(game("b2-b3", "d5-d4", "b3-c4"), len(HEAD) + 12 + 4)
        one = hall("hb2 hd4 mc4 hg1 Kf6", "")
        self.faulty(game("b2-b4xc4", "c4-c5"), len(HEAD) + 9, one)

    def test_a_move_where_it_is_over_already(self):
        cases = ((hall("hb2 Kc4 hd4 mf6", ""), ("b2-b4xc4#1",), "f6-f5"),
                 (hall("hb2 Kd5", "", first="king"), ("d5-d7#2",), "b2-b3"),
                 (hall("ha1 ma2 mb3 Kd5", "", first="king"), ("b3-b1#3",), "d5-d6"),
                 (hall("ha1 ma2 mb1 Kd5", ""), (), "a1-a2"),
                 (OPEN_HALL, ROUND + ROUND, "b2-b3"), (open_hall(limit="4"), ROUND, "b2-b3"))
        for one, lines, more in cases:
            source = game(*lines, more)
            self.faulty(source, source.index("end ") - len(more) - 1, one)

    def test_a_move_behind_the_third_time(self):
        source = game(*ROUND, *ROUND, *ROUND)
        self.faulty(source, len(HEAD) + 6 * 8)

    def test_empty_lines(self):
        self.changed("b2-b3\n", "\nb2-b3\n", 0)
        self.changed("b2-b3\n", "b2-b3\n\n", 6)
        self.changed("end", "\nend", 0)
        self.changed("rules", "\nrules", 0)
        self.changed("\nb2-b3", "b2-b3", 0)

    def test_long_nonsense(self):
        self.faulty("b" * 20000, 0)
        self.faulty(HEAD + "b" * 20000, len(HEAD) + 1)
        self.faulty(HEAD + "\n" * 20000, len(HEAD))
        self.faulty("game " + "A" * 20000, 21)


class TheGameFromNowOn(unittest.TestCase):
    def test_a_refused_read_leaves_it_as_it_was(self):
        asked = [NOW, text(), at(0), at(1), at(2), made(0), made(1), made(2)]
        for sample in SAMPLES:
            before = ask(*sample.by_move(), *asked)[-8:]
            for source in ("", game("b2-b3", "d5-d4", end="drawn goal"), game(*sample.lines, end=sample.words()) + "\n",
                           game(*sample.lines, end=sample.words())[:-1], game(hall="Other")):
                told = ask(*sample.by_move(), read(source), *asked)
                self.assertEqual(told[-9][0], -5)
                self.assertEqual(told[-8:], before)

    def test_a_refused_read_leaves_what_can_be_taken_back(self):
        told = ask(OPEN_HALL, move("b2-b3"), end(0), read(game("f2-f3") + "x"), BACK, NOW, BACK, BACK)
        self.assertEqual(told[3:], [[-5, len(game("f2-f3"))], [0], now_told("7/7/3K3/7/1h5/5h1/7 k", 1), [0], [-2]])

    def test_back(self):
        told = ask(OPEN_HALL, move("f2-f3"), read(game(*ROUND)), BACK, NOW, BACK, BACK, BACK, NOW, BACK)
        self.assertEqual(told[3:], [[0], now_told("7/7/7/3K3/7/1h3h1/7 k", 3), [0], [0], [0],
                                    now_told("7/7/3K3/7/7/1h3h1/7 h"), [-2]])

    def test_back_behind_an_ending(self):
        for words in ("king given", "hunters given", "drawn agreed"):
            told = ask(OPEN_HALL, read(game(*ROUND, end=words)), BACK, NOW, move("b2-b4"), BACK, BACK, NOW)
            self.assertEqual(told[2:], [[0], now_told("7/7/3K3/7/7/1h3h1/7 h", 4, 0, 3, 2), came("b2-b4"), [0], [0],
                                        now_told("7/7/7/3K3/7/1h3h1/7 k", 3)])

    def test_back_behind_over(self):
        for sample in SAMPLES:
            if 1 <= sample.over <= 5 and sample.lines:
                told = ask(sample.begin, read(game(*sample.lines, end=sample.words())), BACK, text(), say(sample.lines[-1]), NOW)
                self.assertEqual(told[2:], [[0], text_told(game(*sample.lines[:-1])), ask(*sample.by_move())[-1],
                                            last(*sample.by_move(), NOW)])

    def test_an_earlier_ending_is_gone(self):
        self.assertEqual(ask(OPEN_HALL, end(0), read(game()), NOW, BACK)[2:], [[0], now_told("7/7/3K3/7/7/1h3h1/7 h"), [-2]])

    def test_move_and_say(self):
        told = ask(OPEN_HALL, read(game(*ROUND[:2])), move("d4-d5"), move("b3-b2"), say("d4-d5"), NOW, at(1), made(0), made(3))
        self.assertEqual(told[2:], [[-2], came("b3-b2"), came("d4-d5"), now_told("7/7/3K3/7/7/1h3h1/7 h", 4, 0, 3, 2),
                                    at_told("7/7/3K3/7/1h5/5h1/7 k"), came("b2-b3"), came("d4-d5")])

    def test_times_seen_and_the_limit_go_on(self):
        self.assertEqual(last(OPEN_HALL, read(game(*ROUND)), *moves(*ROUND)), came("d4-d5", 4))
        self.assertEqual(last(OPEN_HALL, *moves(*ROUND), read(game(*ROUND[:3])), move("d4-d5")), came("d4-d5"))
        self.assertEqual(last(open_hall(limit="3"), read(game(*ROUND[:2])), move("b3-b2")), came("b3-b2", 5))

    def test_end(self):
        for h, over, won in ((0, 6, 1), (1, 6, 0), (2, 7, 2)):
            told = ask(OPEN_HALL, end(1), read(game("b2-b3")), end(3), end(h), NOW, end(h))
            self.assertEqual(told[3:], [[-1], [0], now_told("7/7/3K3/7/1h5/5h1/7 k", 1, over, won), [-4]])

    def test_nothing_goes_on_once_it_is_over_or_ended(self):
        for sample in SAMPLES:
            if sample.over != 0:
                told = ask(sample.begin, read(game(*sample.lines, end=sample.words())), move("b2-b3"), say("b2-b3"), end(0),
                           end(1), end(2))
                self.assertEqual(told[2:], [[-4]] * 5)

    def test_no_rules_before_all_else(self):
        self.assertEqual(ask(read(""), read(game()), NOW), [[-3]] * 3)


if __name__ == "__main__":
    unittest.main()
