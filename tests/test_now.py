"""now, at and made: positions' lines, how often they were seen, how it's over, who has won, the moves."""

import unittest

from helper import BACK, HUNTERS_SHUT_IN, KING_SHUT_IN, NOW, OPEN_HALL, ROUND, SAMPLES, TAKING_HALL, TAKING_LINES
from helper import ask, at, at_told, came, cell, end, game, hall, last, made, move, moves, now_told, open_hall, read
from helper import say, says

MOST = 4294967295
START_LINE = "7/7/3K3/7/7/1h3h1/7 h"
# The lines of the positions that one ROUND goes through, the last being the start's.
ROUND_LINES = ("7/7/3K3/7/1h5/5h1/7 k", "7/7/7/3K3/1h5/5h1/7 h", "7/7/7/3K3/7/1h3h1/7 k", START_LINE)


class PositionsLine(unittest.TestCase):
    def tells(self, line, *calls):
        told = last(*calls, NOW)
        self.assertEqual(told[:-4], [0, len(line)] + list(line.encode()), line)
        self.assertEqual(last(*calls, at(told[-4])), at_told(line, told[-1]))

    def test_pieces_and_runs(self):
        self.tells(START_LINE, OPEN_HALL)
        self.tells("h5h/mh5/7/3K2m/7/2mm3/h5m h", hall("ha1 ha7 hg7 ma6 hb6 Kd4 mg4 mc2 md2 mg1", ""))

    def test_rows_from_the_uppermost_on_each_from_the_left(self):
        self.tells("h6/7/7/3K3/7/7/6m h", hall("ha7 mg1 Kd4"))

    def test_walls_seat_and_exits_have_no_piece(self):
        self.tells("7/7/3K3/7/7/1h5/7 h", hall("hb2 Kd5", "#a1 #c2 #e5 Sd4 Xg7"))
        self.tells("7/7/7/3K3/7/7/h6 h", hall("ha1 Kd4", "Sd4 #b1 #g1 #a7 #b7 #c7 #d7 #e7 #f7 #g7"))
        self.tells("3K3/7/7/7/7/1h5/7 h", hall("hb2 Kd5", "Xd7", goal="exits", first="king"), move("d5-d7"))

    def test_runs_of_two_digits(self):
        self.tells("13/13/5K6h/13/h12 h", hall("ha1 hm3 Kf3", "", 13, 5))
        self.tells("13/1h11/2K10/13/9h3 h", hall("hb4 hj1 Kc3", "", 13, 5))
        self.tells("10/1h8/2K7/10/10 h", hall("hb4 Kc3", "", 10, 5))

    def test_full_rows(self):
        self.tells("5/5/1hKm1/mmmmm/hhhhh k",
                   hall("ha1 hb1 hc1 hd1 he1 ma2 mb2 mc2 md2 me2 hb3 Kc3 md3", "", 5, 5, first="king"))
        pieces = " ".join("h" + letter + "5" for letter in "abcdefghijklm")
        self.tells("hhhhhhhhhhhhh/13/2K10/13/13 h", hall(pieces + " Kc3", "", 13, 5))

    def test_every_size(self):
        for wide in range(5, 14):
            for high in range(5, 14):
                rows = [str(wide)] * high
                rows[-3] = f"2K{wide - 3}"
                rows[-1] = f"{wide - 1}h"
                letter = "abcdefghijklm"[wide - 1]
                self.tells("/".join(rows) + " h", hall(f"h{letter}1 Kc3", "", wide, high))

    def test_whose_turn_it_is(self):
        self.tells("7/7/3K3/7/7/1h5/7 k", hall("hb2 Kd5", "", first="king"))
        for count in range(1, 5):
            self.tells(ROUND_LINES[count - 1], OPEN_HALL, *moves(*ROUND[:count]))

    def test_the_taken_are_gone(self):
        self.tells("7/5K1/3h3/7/1h1h1h1/7/6m k", TAKING_HALL, say(TAKING_LINES[0]))

    def test_a_king_that_is_taken(self):
        self.tells("7/5m1/7/1h1h3/7/7/7 k", hall("hb2 Kc4 hd4 mf6", ""), move("b2-b4"))
        self.tells("7/7/7/1h1h3/7/7/7 k", hall("hb2 Kc4 hd4", ""), move("b2-b4"))

    def test_behind_back(self):
        self.tells("7/7/7/1hKh3/7/7/7 h", hall("hb4 Kc4 hd4", ""), move("b4-a4"), BACK)
        self.tells("7/5m1/7/2Kh3/7/1h5/7 h", hall("hb2 Kc4 hd4 mf6", ""), move("b2-b4"), BACK)


class Counts(unittest.TestCase):
    def test_how_many_moves(self):
        told = ask(OPEN_HALL, NOW, move("b2-b3"), NOW, say("d5-d4"), NOW, move("a1-a2"), NOW, say("x"), NOW, BACK, NOW,
                   end(2), NOW, BACK, NOW, BACK, NOW, BACK, NOW)
        self.assertEqual([answer[-4] for answer in told[1::2]], [0, 1, 2, 2, 2, 1, 1, 1, 0, 0])

    def test_begin_starts_anew(self):
        self.assertEqual(last(OPEN_HALL, *moves(*ROUND), end(0), OPEN_HALL, NOW), now_told(START_LINE))


class OverAndWon(unittest.TestCase):
    def test_each_sample_by_move_by_say_and_by_read(self):
        for sample in SAMPLES:
            for calls in (sample.by_move(), sample.by_say(), [sample.begin, read(game(*sample.lines, end=sample.words()))]):
                told = last(*calls, NOW)
                self.assertEqual(told[-4:-1], [len(sample.lines), sample.over, sample.won], sample.lines)

    def test_0_still_open(self):
        self.assertEqual(last(OPEN_HALL, NOW), now_told(START_LINE))
        self.assertEqual(last(OPEN_HALL, move("b2-b3"), NOW), now_told(ROUND_LINES[0], 1))

    def test_1_the_hunters_have_won(self):
        self.assertEqual(last(hall("hb2 Kc4 hd4 mf6", ""), move("b2-b4"), NOW),
                         now_told("7/5m1/7/1h1h3/7/7/7 k", 1, 1, 0))

    def test_2_the_kings_side_has_won(self):
        self.assertEqual(last(hall("hb2 Kd5", "", first="king"), move("d5-d7"), NOW),
                         now_told("3K3/7/7/7/7/1h5/7 h", 1, 2, 1))
        self.assertEqual(last(hall("hb2 Kd5", "Xd6", first="king", goal="exits"), move("d5-d6"), NOW),
                         now_told("7/3K3/7/7/7/1h5/7 h", 1, 2, 1))

    def test_3_the_hunters_are_stuck(self):
        self.assertEqual(last(HUNTERS_SHUT_IN, move("b3-b1"), NOW), now_told("7/7/3K3/7/7/m6/hm5 h", 1, 3, 1))
        self.assertEqual(last(hall("ha1 ma2 mb1 Kd5", ""), NOW), now_told("7/7/3K3/7/7/m6/hm5 h", 0, 3, 1))

    def test_3_the_kings_side_is_stuck(self):
        self.assertEqual(last(KING_SHUT_IN, move("g7-g6"), NOW), now_told("7/6h/7/1h5/1Kh4/7/1h5 k", 1, 3, 0))
        one = hall("hc3 hb4 Kb3", "#a3 #b2", king="slides bare four", first="king")
        self.assertEqual(last(one, NOW), now_told("7/7/7/1h5/1Kh4/7/7 k", 0, 3, 0))

    def test_4_as_thrice_says(self):
        for thrice, won in (("drawn", 2), ("hunters", 1), ("king", 0)):
            self.assertEqual(last(open_hall(thrice=thrice), *moves(*ROUND, *ROUND), NOW),
                             now_told(START_LINE, 8, 4, won, 3))

    def test_4_whoever_moved_last(self):
        lines = ("f2-f3",) + ("d5-d4", "b2-b3", "d4-d5", "b3-b2") * 2
        for thrice, won in (("drawn", 2), ("hunters", 1), ("king", 0)):
            self.assertEqual(last(open_hall(thrice=thrice), *moves(*lines), NOW),
                             now_told("7/7/3K3/7/5h1/1h5/7 k", 9, 4, won, 3))

    def test_5_nobody(self):
        self.assertEqual(last(open_hall(limit="1", thrice="king"), move("b2-b3"), NOW), now_told(ROUND_LINES[0], 1, 5, 2))

    def test_6_the_side_that_gave_up_has_lost(self):
        for h, won in ((0, 1), (1, 0)):
            self.assertEqual(last(OPEN_HALL, end(h), NOW), now_told(START_LINE, 0, 6, won))
            self.assertEqual(last(OPEN_HALL, move("b2-b3"), end(h), NOW), now_told(ROUND_LINES[0], 1, 6, won))

    def test_7_nobody(self):
        self.assertEqual(last(OPEN_HALL, end(2), NOW), now_told(START_LINE, 0, 7, 2))

    def test_the_first_of_them(self):
        one = hall("hb2 Kc4 hd4", "", limit="1")
        self.assertEqual(last(one, move("b2-b4"), NOW)[-3:], [1, 0, 1])
        one = hall("hb2 Kd5", "", limit="1", first="king")
        self.assertEqual(last(one, move("d5-d7"), NOW)[-3:], [2, 1, 1])
        one = hall("ha1 ma2 Kd5", "#b1", first="king", limit="1")
        self.assertEqual(last(one, move("d5-d7"), NOW)[-3:], [2, 1, 1])
        self.assertEqual(last(one, move("d5-d6"), NOW)[-3:], [3, 1, 1])
        one = open_hall(limit="8", thrice="hunters")
        self.assertEqual(last(one, *moves(*ROUND, *ROUND), NOW)[-3:], [4, 1, 3])

    def test_an_ending_taken_back(self):
        for h in (0, 1, 2):
            self.assertEqual(last(OPEN_HALL, end(h), BACK, NOW), now_told(START_LINE))

    def test_over_taken_back(self):
        for sample in SAMPLES:
            if sample.lines and sample.ending is None:
                self.assertEqual(last(*sample.by_move(), BACK, NOW)[-4:-1], [len(sample.lines) - 1, 0, 3])


class Seen(unittest.TestCase):
    def seen(self, *calls):
        return last(*calls, NOW)[-1]

    def test_once_twice_three_times(self):
        self.assertEqual([self.seen(OPEN_HALL, *moves(*(ROUND + ROUND)[:count])) for count in range(9)],
                         [1, 1, 1, 1, 2, 2, 2, 2, 3])

    def test_whose_turn_it_is_matters(self):
        hunters_wait = ("b2-b4", "d5-d4", "b4-b3", "d4-d5", "b3-b2")
        self.assertEqual(self.seen(OPEN_HALL, *moves(*hunters_wait)), 1)

    def test_other_pieces_of_the_same_sort(self):
        lines = ("b2-b3", "d5-d4", "f2-b2", "d4-d5", "b3-f3", "d5-d4", "f3-f2", "d4-d5")
        self.assertEqual(self.seen(OPEN_HALL, *moves(*lines)), 2)

    def test_behind_back(self):
        self.assertEqual(self.seen(OPEN_HALL, *moves(*ROUND), *[BACK] * 4), 1)
        self.assertEqual(self.seen(OPEN_HALL, *moves(*ROUND), BACK), 1)
        self.assertEqual(self.seen(OPEN_HALL, *moves(*ROUND, *ROUND), *[BACK] * 4), 2)
        self.assertEqual(self.seen(OPEN_HALL, *moves(*ROUND, *ROUND), BACK, move("d4-d5")), 3)
        self.assertEqual(self.seen(OPEN_HALL, *moves(*ROUND), *[BACK, move("d4-d5")] * 5), 2)
        self.assertEqual(self.seen(OPEN_HALL, *[move("b2-b3"), BACK] * 5), 1)

    def test_refused_calls_and_endings_see_nothing(self):
        self.assertEqual(self.seen(OPEN_HALL, NOW, move("a1-a2"), say("x"), end(9), end(2), end(1), move("b2-b3")), 1)

    def test_behind_read(self):
        text = game(*ROUND)
        self.assertEqual(self.seen(OPEN_HALL, read(text)), 2)
        self.assertEqual(self.seen(OPEN_HALL, *moves(*ROUND), read(text)), 2)
        self.assertEqual(self.seen(OPEN_HALL, read(text), read(text), read(game())), 1)
        self.assertEqual(self.seen(OPEN_HALL, read(text), *moves(*ROUND)), 3)


class At(unittest.TestCase):
    def test_each_k(self):
        calls = [OPEN_HALL] + moves(*ROUND, *ROUND)
        expected = [at_told(START_LINE)] + [at_told(line) for line in ROUND_LINES[:3]] + [at_told(START_LINE, 2)]
        expected += [at_told(line, 2) for line in ROUND_LINES[:3]] + [at_told(START_LINE, 3)]
        self.assertEqual(ask(*calls, *[at(k) for k in range(9)])[9:], expected)

    def test_above(self):
        for k in (9, 10, 255, 60000, MOST):
            self.assertEqual(last(OPEN_HALL, *moves(*ROUND, *ROUND), at(k)), [-2])
        for k in (1, 2, MOST):
            self.assertEqual(last(OPEN_HALL, at(k)), [-2])

    def test_no_moves(self):
        self.assertEqual(last(OPEN_HALL, at(0)), at_told(START_LINE))
        self.assertEqual(last(hall("hb2 Kd5", "", first="king"), at(0)), at_told("7/7/3K3/7/7/1h5/7 k"))

    def test_behind_back(self):
        told = ask(OPEN_HALL, *moves(*ROUND), BACK, at(4), at(3), at(0), move("d4-d6"), at(4))
        self.assertEqual(told[6:9] + told[10:], [[-2], at_told(ROUND_LINES[2]), at_told(START_LINE),
                                                 at_told("7/3K3/7/7/7/1h3h1/7 h")])

    def test_an_ending_is_no_move(self):
        self.assertEqual(ask(OPEN_HALL, end(0), at(0), at(1))[2:], [at_told(START_LINE), [-2]])

    def test_when_it_is_over(self):
        told = ask(hall("hb2 Kc4 hd4 mf6", ""), move("b2-b4"), at(0), at(1), at(2))
        self.assertEqual(told[2:], [at_told("7/5m1/7/2Kh3/7/1h5/7 h"), at_told("7/5m1/7/1h1h3/7/7/7 k"), [-2]])

    def test_behind_read(self):
        told = ask(OPEN_HALL, move("f2-f3"), read(game(*ROUND)), *[at(k) for k in range(6)])
        self.assertEqual(told[3:], [at_told(START_LINE)] + [at_told(line) for line in ROUND_LINES[:3]]
                         + [at_told(START_LINE, 2), [-2]])


class Made(unittest.TestCase):
    def test_as_the_list_that_was_told(self):
        for sample in SAMPLES:
            count = len(sample.lines)
            ways = (sample.by_move(), sample.by_say(), [sample.begin, read(game(*sample.lines, end=sample.words()))])
            listed = ask(*sample.by_move())[1:count + 1]
            for calls in ways:
                told = ask(*calls, *[made(k) for k in range(count + 2)])
                self.assertEqual(told[len(calls):], listed + [[-2], [-2]])

    def test_a_move_that_takes(self):
        for calls in ([move("d1-d3")], says(TAKING_LINES[0]), [read(game(*TAKING_LINES))]):
            self.assertEqual(last(TAKING_HALL, *calls, made(0)), came("d1-d3", 0, "c3 e3 d4"))

    def test_how_it_was_over_by_it(self):
        self.assertEqual(last(hall("hb2 Kc4 hd4", ""), move("b2-b4"), made(0)), came("b2-b4", 1, "c4"))
        self.assertEqual(last(OPEN_HALL, *moves(*ROUND, *ROUND), made(7)), came("d4-d5", 4))
        self.assertEqual(last(OPEN_HALL, *moves(*ROUND, *ROUND), made(3)), came("d4-d5"))
        self.assertEqual(last(open_hall(limit="1"), move("b2-b3"), made(0)), came("b2-b3", 5))

    def test_an_ending_does_not_change_it(self):
        for h in (0, 1, 2):
            self.assertEqual(ask(OPEN_HALL, move("b2-b3"), end(h), made(0), made(1))[3:], [came("b2-b3"), [-2]])

    def test_no_such_move(self):
        for k in (0, 1, 168, MOST):
            self.assertEqual(last(OPEN_HALL, made(k)), [-2])
        for k in (4, 5, 60000, MOST):
            self.assertEqual(last(OPEN_HALL, *moves(*ROUND), made(k)), [-2])

    def test_behind_back(self):
        told = ask(OPEN_HALL, *moves(*ROUND), BACK, made(3), made(2), move("d4-d6"), made(3))
        self.assertEqual(told[6:], [[-2], came("b3-b2"), came("d4-d6"), came("d4-d6")])

    def test_numbers_of_cells(self):
        self.assertEqual(last(hall("hd4 Kb3", ""), [1, 42, 55], made(0)), [0, 3, 42, 55, 0])
        self.assertEqual(cell("d4"), 42)


class Refusals(unittest.TestCase):
    def test_no_rules_before_all_else(self):
        self.assertEqual(ask(NOW, at(0), at(MOST), made(0), made(MOST)), [[-3]] * 5)

    def test_asking_changes_nothing(self):
        calls = [NOW, at(0), at(1), at(2), at(9), made(0), made(1), made(9)]
        told = ask(OPEN_HALL, move("b2-b3"), *calls, *calls, move("d5-d4"))
        self.assertEqual(told[2:10], told[10:18])
        self.assertEqual(told[18], came("d5-d4"))


if __name__ == "__main__":
    unittest.main()
