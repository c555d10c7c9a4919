"""The interface: how calls are handed in, how answers are given back."""

import unittest

from helper import BACK, NOW, ask, at, at_told, board, begin, came, cell, end, game, hall, made, move, now_told, read
from helper import rules, say, text, text_told

from hallgames.desk import answers

ONE_HALL = hall("hb2 hd4 mc4 Kf6", "")


def joined(*calls):
    return [number for call in calls for number in call]


class Interface(unittest.TestCase):
    def test_answers_number_by_number(self):
        calls = joined([4], [0, 1, 116], ONE_HALL, [1, 14, 40], [2, 1, 102], [3, 3], [3, 1], [1, 0, 0], [4])
        self.assertEqual(answers(calls), [1, -3, 3, -6, 1, 1, 1, 0, 6, 0, 4, 14, 40, 0, 41, 2, -5, 1, 1, -1, 1, 0, 1, -4, 1, 0])

    def test_what_is_told_number_by_number(self):
        calls = joined(hall("ha1 Kc3", "", 5, 5, name="H"), [5], [1, 0, 1], [5], [6, 0], [6, 2], [7, 0], [7, 1], [3, 0], [5],
                       [8, 1, 65, 2, 66, 55], [8, 0, 1, 65], [9, 1, 103], [9, 2, 103, 98])
        line = list(b"5/5/2K2/5/h4 h")
        moved = list(b"5/5/2K2/5/1h3 k")
        written = list(b"game A B7\nrules H\na1-b1\nend king given\n")
        self.assertEqual(answers(calls), [1, 0] + [20, 0, 14] + line + [0, 0, 3, 1] + [5, 0, 3, 0, 1, 0]
                         + [21, 0, 15] + moved + [1, 0, 3, 1] + [17, 0, 14] + line + [1] + [1, -2]
                         + [5, 0, 3, 0, 1, 0] + [1, -2] + [1, 0] + [21, 0, 15] + moved + [1, 6, 1, 1]
                         + [len(written) + 2, 0, len(written)] + written + [1, -1] + [2, -5, 1] + [2, -5, 1])
        self.assertEqual(answers(joined(hall("ha1 Kc3", "", 5, 5, name="H"), [9, len(written)], written)), [1, 0, 1, 0])

    def test_one_call_alone(self):
        self.assertEqual(answers([4]), [1, -3])
        self.assertEqual(answers([0, 0]), [3, -6, 1, 0])
        self.assertEqual(answers([2, 0]), [1, -3])

    def test_what_is_handed_in_is_not_changed(self):
        calls = joined(ONE_HALL, move("b2-b4"), say("f6-f5"), end(2), BACK, begin("tafl"), move("a1-a2"), say(""), NOW, at(0),
                       at(9), made(0), made(9), text(), text("", ""), read(game("b2-b3")), BACK, read(game("b2-b9")), NOW)
        before = list(calls)
        answers(calls)
        self.assertEqual(calls, before)

    def test_lists_do_not_know_of_each_other(self):
        calls = joined(ONE_HALL, move("b2-b3"), end(0))
        first = answers(calls)
        self.assertEqual(answers(joined(move("b2-b3"), BACK, end(0))), [1, -3, 1, -3, 1, -3])
        self.assertEqual(answers(joined(NOW, at(0), made(0), text(), read(game()))), [1, -3] * 5)
        self.assertEqual(ask(ONE_HALL, NOW)[1], now_told("7/5K1/7/2mh3/7/1h5/7 h"))
        self.assertEqual(answers(calls), first)

    def test_what_is_given_back_is_the_callers_own(self):
        calls = joined(ONE_HALL, move("b2-b4"))
        told = answers(calls)
        told.clear()
        self.assertEqual(answers(calls), [1, 0, 6, 0, 4, 14, 40, 0, 41])

    def test_whole_numbers_are_never_true_or_false(self):
        calls = joined(begin("tafl"), begin(rules(board("hb2"))), ONE_HALL, move("b2-b4"), say("f6-f5"), say("x"),
                       end(0), end(3), BACK, BACK, move("a1-a1"), NOW, at(0), at(1), at(9), made(0), made(9), text(),
                       text("", ""), read(game("b2-b3", end="king given")), NOW, read(""), text())
        self.assertEqual({kind for kind in map(type, answers(calls))}, {int})

    def test_the_largest_numbers(self):
        most = 4294967295
        self.assertEqual(ask(ONE_HALL, [1, most, most], [1, cell("b2"), most], end(most)), [[0], [-2], [-2], [-1]])
        self.assertEqual(ask(ONE_HALL, move("b2-b3"), at(most), made(most))[2:], [[-2], [-2]])

    def test_without_rules_every_call_but_begin_answers_so(self):
        calls = joined([1, 0, 1], [2, 2, 1, 2], [3, 9], [4], [5], [6, 1], [7, 0], [8, 1, 65, 2, 66, 67], [9, 1, 7], [4])
        self.assertEqual(answers(calls), [1, -3] * 10)

    def test_a_thousand_calls(self):
        there_and_back = [say("b2-b3"), BACK, move("b2-b1"), BACK] * 249
        told = ask(ONE_HALL, *there_and_back, end(1))
        self.assertEqual(told, [[0]] + [came("b2-b3"), [0], came("b2-b1"), [0]] * 249 + [[0]])

    def test_a_thousand_calls_that_tell(self):
        told = ask(ONE_HALL, move("b2-b3"), *[NOW, at(0), at(1), made(0), text()] * 199)
        line = "7/5K1/7/2mh3/1h5/7/7 k"
        self.assertEqual(told[2:], [now_told(line, 1), at_told("7/5K1/7/2mh3/7/1h5/7 h"), at_told(line), came("b2-b3"),
                                    text_told(game("b2-b3"))] * 199)

    def test_a_text_of_many_bytes(self):
        right = rules(board("hb2 Kc3"))
        self.assertEqual(ask(begin(right + "\n" * 20000), begin("t" * 5000)), [[-6, 1, len(right)], [-6, 1, 1]])
        self.assertEqual(ask(ONE_HALL, read(game() + "\n" * 20000), text("A" * 9000, "B")), [[0], [-5, len(game())], [-1]])


if __name__ == "__main__":
    unittest.main()
