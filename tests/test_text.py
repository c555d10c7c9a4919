"""text: a game's text with its players' names."""

import unittest

from helper import BACK, NOW, OPEN_HALL, ROUND, SAMPLES, TAKING_HALL, ask, begin, board, end, game
from helper import hall, last, move, moves, open_hall, read, rules, say, text, text_told

LONGEST = "Abcdefghijklmno6"
NO_NAMES = ("", LONGEST + "7", "7nn", "A nn", "Ann ", " Ann", "An-n", "A_n", "_Ann", "Ann\n", "\n", "\xc4nn", "An\xff",
            "An\x00", "@", "[", "`", "{", "A@", "A[", "A`", "A{", "A/", "A:", "a" * 300)


class Texts(unittest.TestCase):
    def tells(self, expected, *calls):
        self.assertEqual(last(*calls), text_told(expected))

    def test_without_moves(self):
        self.tells("game Ann Bo\nrules Hall\nend open open\n", OPEN_HALL, text())

    def test_with_moves(self):
        self.tells("game Ann Bo\nrules Hall\nb2-b3\nd5-d4\nb3-b2\nend open open\n", OPEN_HALL, *moves(*ROUND[:3]), text())

    def test_with_moves_that_take(self):
        self.tells("game Ann Bo\nrules Hall\nd1-d3xc3,e3,d4\ng1-g2\nb3-b2\nend open open\n",
                   TAKING_HALL, *moves("d1-d3", "g1-g2", "b3-b2"), text())
        self.tells("game Ann Bo\nrules Hall\nb2-b4xc4#1\nend hunters taken\n",
                   hall("hb2 Kc4 hd4 mf6", ""), move("b2-b4"), text())

    def test_cells_of_two_digits(self):
        one = hall("hd9 mc11 hb11 me11 hf11 md12 hd13 Kf6", "", 13, 13)
        self.tells(game("d9-d11xc11,e11,d12", "f6-f7"), one, *moves("d9-d11", "f6-f7"), text())

    def test_each_end(self):
        for sample in SAMPLES:
            for calls in (sample.by_move(), sample.by_say()):
                self.tells(game(*sample.lines, end=sample.words()), *calls, text())

    def test_the_words_of_each_end(self):
        known = {sample.words() for sample in SAMPLES}
        self.assertEqual(known, {"open open", "hunters taken", "king goal", "king stuck", "hunters stuck", "drawn thrice",
                                 "king thrice", "hunters thrice", "drawn limit", "king given", "hunters given",
                                 "drawn agreed"})

    def test_thrice_and_the_limit_stand_in_no_moves_line(self):
        self.tells(game(*ROUND, *ROUND, end="drawn thrice"), OPEN_HALL, *moves(*ROUND, *ROUND), text())
        self.tells(game("b2-b3", end="drawn limit"), open_hall(limit="1"), move("b2-b3"), text())

    def test_behind_back(self):
        self.tells(game("b2-b3"), OPEN_HALL, *moves(*ROUND[:2]), BACK, text())
        self.tells(game("b2-b3", "d5-d6"), OPEN_HALL, *moves(*ROUND[:2]), BACK, say("d5-d6"), text())
        self.tells(game(*ROUND[:2]), OPEN_HALL, *moves(*ROUND[:2]), end(0), BACK, text())
        self.tells(game(*ROUND, *ROUND[:3]), OPEN_HALL, *moves(*ROUND, *ROUND), BACK, text())

    def test_behind_read_with_other_names(self):
        self.tells(game(*ROUND, end="king given"), OPEN_HALL, read(game(*ROUND, end="king given", names="Xyz Q")), text())

    def test_the_rules_own_name(self):
        for name in ("A", "z", "K", "a0", LONGEST, "game", "end"):
            one = hall("hb2 hf2 Kd5", "", name=name)
            self.tells(game("b2-b3", hall=name), one, move("b2-b3"), text())

    def test_the_rules_it_has_now(self):
        other = hall("hb2 Kd5", "", name="Other")
        self.tells(game(hall="Other"), OPEN_HALL, move("b2-b3"), other, text())
        self.tells(game("b2-b3"), OPEN_HALL, move("b2-b3"), begin(rules(board("hb2"), name="Other")), text())


class Names(unittest.TestCase):
    def test_names(self):
        for name in ("A", "Z", "a", "z", "A0", "z9", "aZ", "game", "end", LONGEST, "abcdefghijklmnop"):
            self.assertEqual(last(OPEN_HALL, text(name, "Bo")), text_told(game(names=name + " Bo")))
            self.assertEqual(last(OPEN_HALL, text("Ann", name)), text_told(game(names="Ann " + name)))
            self.assertEqual(last(OPEN_HALL, text(name, name)), text_told(game(names=name + " " + name)))

    def test_the_hunters_first(self):
        self.assertEqual(last(OPEN_HALL, text("Hun", "Kin")), text_told("game Hun Kin\nrules Hall\nend open open\n"))

    def test_no_names(self):
        for name in NO_NAMES:
            self.assertEqual(ask(OPEN_HALL, text(name, "Bo"), text("Ann", name), text(name, name)), [[0]] + [[-1]] * 3, name)

    def test_names_are_looked_at_in_every_game(self):
        for sample in SAMPLES:
            self.assertEqual(last(*sample.by_move(), text("", "Bo")), [-1])

    def test_no_rules_before_all_else(self):
        self.assertEqual(ask(text(), text("", ""), text("Ann", "7")), [[-3]] * 3)

    def test_asking_changes_nothing(self):
        told = ask(OPEN_HALL, move("b2-b3"), NOW, text(), text("", "Bo"), NOW, text())
        self.assertEqual(told[5:], told[2:4])


if __name__ == "__main__":
    unittest.main()
