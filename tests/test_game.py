"""When a game is over, how it is ended, and how that and its moves are taken back."""

import unittest

from helper import BACK, OPEN_HALL, ROUND, ask, came, end, hall, last, move, moves, say

from hallgames.game import Game
from hallgames.rulestext import read_rules


class OverByThePosition(unittest.TestCase):
    def test_1_the_king_is_taken(self):
        self.assertEqual(last(hall("hb2 Kc4 hd4 mf6", ""), move("b2-b4")), came("b2-b4", 1, "c4"))

    def test_1_though_nobody_is_left_to_move(self):
        self.assertEqual(last(hall("hb2 Kc4 hd4", ""), move("b2-b4")), came("b2-b4", 1, "c4"))

    def test_2_the_edge(self):
        one = hall("hb2 Kd5", "", first="king")
        for line, over in (("d5-d7", 2), ("d5-d1", 2), ("d5-a5", 2), ("d5-g5", 2), ("d5-d6", 0), ("d5-f5", 0)):
            self.assertEqual(last(one, move(line)), came(line, over))
        one = hall("hb2 Kd3", "", 13, 5, first="king")
        for line, over in (("d3-m3", 2), ("d3-d5", 2), ("d3-l3", 0), ("d3-e3", 0)):
            self.assertEqual(last(one, move(line)), came(line, over))

    def test_2_an_exit(self):
        one = hall("hb2 Kd5", "Xd7 Xf5", first="king", goal="exits")
        for line, over in (("d5-d7", 2), ("d5-f5", 2), ("d5-d1", 0), ("d5-g5", 0), ("d5-a5", 0)):
            self.assertEqual(last(one, move(line)), came(line, over))

    def test_2_an_exit_is_no_goal_where_the_edge_is(self):
        one = hall("hb2 Kd5", "Xf5", first="king", goal="edge")
        self.assertEqual(last(one, move("d5-f5")), came("d5-f5"))

    def test_2_though_the_hunters_have_no_move(self):
        one = hall("ha1 ma2 Kd5", "#b1", first="king")
        self.assertEqual(last(one, move("d5-d6")), came("d5-d6", 3))
        self.assertEqual(last(one, move("d5-d7")), came("d5-d7", 2))

    def test_2_only_the_king_has_a_goal(self):
        self.assertEqual(last(hall("hb2 mc3 Kd5", "", first="king"), move("c3-c1")), came("c3-c1"))
        self.assertEqual(last(OPEN_HALL, move("b2-b1")), came("b2-b1"))

    def test_3_all_hunters_are_taken(self):
        one = hall("hc4 mb2 md4 Ke6", "", first="king")
        self.assertEqual(last(one, move("b2-b4")), came("b2-b4", 3, "c4"))

    def test_3_the_hunters_are_shut_in(self):
        one = hall("ha1 mb3 Kd5 ma2", "", first="king")
        self.assertEqual(last(one, move("b3-b1")), came("b3-b1", 3))

    def test_3_the_kings_side_is_shut_in(self):
        one = hall("hc3 hb4 hb1 Kb3 hg7", "#a3 #b2", king="slides bare four")
        self.assertEqual(last(one, move("g7-g6")), came("g7-g6", 3))
        one = hall("hc3 hb4 hb1 Kb3 mf6 hg7", "#a3 #b2", king="slides bare four")
        self.assertEqual(last(one, move("g7-g6")), came("g7-g6"))

    def test_3_over_the_seat_there_is_a_move_only_if_it_is_passed(self):
        pieces = "hg7 he6 mc3 hb3 Kc5"
        ground = "Sd3 #c2 #c4 #b5 #d5 #c6"
        for seat, over in (("passed quiet", 0), ("barred quiet", 3)):
            self.assertEqual(last(hall(pieces, ground, seat=seat), move("g7-g6")), came("g7-g6", over))
        pieces += " me3"
        self.assertEqual(last(hall(pieces, ground + " #e2 #e4 #f3", seat="passed quiet"), move("g7-g6")), came("g7-g6", 3))

    def test_3_an_exit_is_no_way_for_men(self):
        pieces = "hg7 he6 mc3 hb3 Kc5"
        self.assertEqual(last(hall(pieces, "Xd3 #c2 #c4 #b5 #d5 #c6"), move("g7-g6")), came("g7-g6", 3))

    def test_3_an_exit_or_a_barred_seat_is_a_way_for_the_king(self):
        for ground in ("Xd5 #c4 #b5 #c6", "Sd5 #c4 #b5 #c6"):
            for king in ("slides bare two", "steps bare two"):
                one = hall("hg7 Kc5", ground + (" Sa1" if "S" not in ground else ""), seat="barred quiet", king=king)
                self.assertEqual(last(one, move("g7-g6")), came("g7-g6"))

    def test_3_at_the_start(self):
        one = hall("ha1 ma2 mb1 Kd5", "")
        self.assertEqual(ask(one, move("a1-a2"), say(""), end(0), end(3), BACK)[1:], [[-4], [-4], [-4], [-1], [-2]])
        one = hall("ha1 ma2 mb1 Kd5", "", first="king")
        self.assertEqual(last(one, move("d5-d6")), came("d5-d6", 3))

    def test_the_first_of_them_is_told(self):
        self.assertEqual(last(hall("hb2 Kc4 hd4", "", limit="1"), move("b2-b4")), came("b2-b4", 1, "c4"))
        self.assertEqual(last(hall("hb2 Kd5", "", limit="1", first="king"), move("d5-d7")), came("d5-d7", 2))
        one = hall("ha1 ma2 mb1 Kd5", "", first="king", limit="1")
        self.assertEqual(last(one, move("d5-d6")), came("d5-d6", 3))


class OverByTheGame(unittest.TestCase):
    def test_4_seen_three_times(self):
        told = ask(OPEN_HALL, *moves(*ROUND, *ROUND))
        self.assertEqual(told[1:], [came(line) for line in ROUND + ROUND[:3]] + [came("d4-d5", 4)])

    def test_4_whatever_thrice_says(self):
        for thrice in ("drawn", "hunters", "king"):
            one = hall("hb2 hf2 Kd5", "", thrice=thrice)
            self.assertEqual(last(one, *moves(*ROUND, *ROUND)), came("d4-d5", 4))

    def test_4_a_position_other_than_the_start(self):
        lines = ("f2-f3",) + ("d5-d4", "b2-b3", "d4-d5", "b3-b2") * 2
        told = ask(OPEN_HALL, *moves(*lines))
        self.assertEqual([answer[4] for answer in told[1:]], [0] * 8 + [4])

    def test_4_not_one_behind_another(self):
        lines = ROUND + ("f2-f3", "d5-d4", "f3-f2", "d4-d5")
        self.assertEqual(last(OPEN_HALL, *moves(*lines)), came("d4-d5", 4))

    def test_4_by_other_pieces_of_the_same_sort(self):
        lines = ("b2-b3", "d5-d4", "f2-b2", "d4-d5", "b3-f3", "d5-d4", "f3-f2", "d4-d5")
        self.assertEqual([answer[4] for answer in ask(OPEN_HALL, *moves(*lines, *lines))[1:]], [0] * 15 + [4])

    def test_4_the_pieces_and_whose_turn_it_is(self):
        hunters_wait = ("b2-b4", "d5-d4", "b4-b3", "d4-d5", "b3-b2")
        king_waits = ("d5-d3", "b2-b3", "d3-d4", "b3-b2", "d4-d5")
        told = ask(OPEN_HALL, *moves(*hunters_wait, *king_waits))
        self.assertEqual([answer[4] for answer in told[1:]], [0] * 10)
        told = ask(OPEN_HALL, *moves(*hunters_wait, *king_waits, *hunters_wait, *king_waits))
        self.assertEqual([answer[4] for answer in told[1:]], [0] * 19 + [4])

    def test_5_the_limit(self):
        for limit in (1, 2, 3, 5):
            one = hall("hb2 hf2 Kd5", "", limit=str(limit))
            told = ask(one, *moves(*(ROUND + ROUND)[:limit]), move("a1-a2"))
            self.assertEqual([answer[4] for answer in told[1:limit + 1]], [0] * (limit - 1) + [5])
            self.assertEqual(told[-1], [-4])

    def test_4_before_5(self):
        one = hall("hb2 hf2 Kd5", "", limit="8")
        self.assertEqual(last(one, *moves(*ROUND, *ROUND)), came("d4-d5", 4))

    def test_a_limit_that_is_not_reached(self):
        one = hall("hb2 hf2 Kd5", "", limit="60000")
        self.assertEqual(last(one, *moves(*ROUND)), came("d4-d5"))


class NothingGoesOn(unittest.TestCase):
    def test_once_it_is_over(self):
        games = ((hall("hb2 Kc4 hd4 mf6", ""), ("b2-b4",), "f6-f5"), (hall("hb2 Kd5", "", first="king"), ("d5-d7",), "b2-b3"),
                 (hall("ha1 ma2 mb3 Kd5", "", first="king"), ("b3-b1",), "d5-d6"), (OPEN_HALL, ROUND + ROUND, "b2-b3"),
                 (hall("hb2 Kd5", "", limit="1"), ("b2-b3",), "d5-d6"))
        for how, (one, lines, more) in enumerate(games, start=1):
            told = ask(one, *moves(*lines), move(more), say(more), end(0), end(1), end(2), BACK, *moves(lines[-1]))
            self.assertEqual(told[len(lines)][4], how)
            self.assertEqual(told[len(lines) + 1:-2], [[-4]] * 5)
            self.assertEqual(told[-2:], [[0], told[len(lines)]])

    def test_once_it_is_ended(self):
        for h in (0, 1, 2):
            told = ask(OPEN_HALL, move("b2-b3"), end(h), move("d5-d6"), say("d5-d6"), end(0), end(1), end(2))
            self.assertEqual(told[2:], [[0]] + [[-4]] * 5)


class Ending(unittest.TestCase):
    def test_each_h(self):
        for h in (0, 1, 2):
            self.assertEqual(ask(OPEN_HALL, end(h)), [[0], [0]])
            self.assertEqual(ask(OPEN_HALL, move("b2-b3"), end(h))[2], [0])

    def test_6_given_up_and_7_left_as_drawn(self):
        for h, how in ((0, 6), (1, 6), (2, 7)):
            game = Game(read_rules(OPEN_HALL[2:]))
            self.assertEqual(game.how_over(), 0)
            game.leave(h)
            self.assertEqual(game.how_over(), how)
            game.take_back()
            self.assertEqual(game.how_over(), 0)

    def test_h_above_2(self):
        for h in (3, 4, 6, 7, 255, 4294967295):
            self.assertEqual(ask(OPEN_HALL, end(h), move("b2-b3")), [[0], [-1], came("b2-b3")])

    def test_h_above_2_before_over_or_ended(self):
        self.assertEqual(ask(OPEN_HALL, end(0), end(3), end(2))[2:], [[-1], [-4]])
        self.assertEqual(ask(hall("hb2 Kd5", "", limit="1"), move("b2-b3"), end(3), end(2))[2:], [[-1], [-4]])

    def test_no_rules_before_all_else(self):
        self.assertEqual(ask(end(0), end(3), BACK), [[-3], [-3], [-3]])


class Back(unittest.TestCase):
    def test_nothing_to_take_back(self):
        self.assertEqual(ask(OPEN_HALL, BACK, BACK, move("b2-b3")), [[0], [-2], [-2], came("b2-b3")])

    def test_behind_a_move(self):
        self.assertEqual(ask(OPEN_HALL, move("b2-b3"), BACK, BACK, move("b2-b4"))[2:], [[0], [-2], came("b2-b4")])

    def test_behind_a_say(self):
        self.assertEqual(ask(OPEN_HALL, say("b2-b3"), BACK, BACK, say("b2-b4"))[2:], [[0], [-2], came("b2-b4")])

    def test_behind_an_end(self):
        for h in (0, 1, 2):
            self.assertEqual(ask(OPEN_HALL, move("b2-b3"), end(h), BACK, move("d5-d6"), BACK, BACK, BACK)[3:],
                             [[0], came("d5-d6"), [0], [0], [-2]])
            self.assertEqual(ask(OPEN_HALL, end(h), BACK, BACK, end(h))[2:], [[0], [-2], [0]])

    def test_behind_a_refused_end(self):
        self.assertEqual(ask(OPEN_HALL, move("b2-b3"), end(3), BACK, BACK)[3:], [[0], [-2]])

    def test_the_taken_come_back(self):
        one = hall("hb2 hd4 mc4 hg1 Kf6", "")
        self.assertEqual(ask(one, move("b2-b4"), BACK, move("b2-b3"), move("c4-c5"))[2:],
                         [[0], came("b2-b3"), came("c4-c5")])
        self.assertEqual(ask(one, move("b2-b4"), BACK, move("b2-b4"))[3], came("b2-b4", 0, "c4"))

    def test_the_king_comes_back(self):
        one = hall("hb2 Kc4 hd4", "")
        self.assertEqual(ask(one, say("b2-b4xc4#1"), BACK, move("b2-b3"), move("c4-c5"))[2:],
                         [[0], came("b2-b3"), came("c4-c5")])

    def test_all_the_way(self):
        told = ask(OPEN_HALL, *moves(*ROUND), *[BACK] * 5, *moves(*ROUND))
        self.assertEqual(told[5:], [[0]] * 4 + [[-2]] + [came(line) for line in ROUND])

    def test_behind_each_way_to_be_over_it_goes_on(self):
        told = ask(OPEN_HALL, *moves(*ROUND, *ROUND), BACK, move("d4-d3"), move("b2-b4"))
        self.assertEqual(told[-3:], [[0], came("d4-d3"), came("b2-b4")])
        told = ask(hall("hb2 hf2 Kd5", "", limit="2"), *moves("b2-b3", "d5-d4"), BACK, move("d5-d6"), move("b3-b4"))
        self.assertEqual(told[-4:], [came("d5-d4", 5), [0], came("d5-d6", 5), [-4]])


class WhicheverWay(unittest.TestCase):
    def test_moves_taken_back_are_not_seen(self):
        wandering = [call for line in ROUND for call in (move(line), BACK, move(line), BACK, move(line))]
        told = ask(OPEN_HALL, *wandering, *moves(*ROUND))
        self.assertEqual(told[-1], came("d4-d5", 4))
        self.assertEqual(told[-4:-1], [came(line) for line in ROUND[:3]])

    def test_times_seen_behind_back(self):
        told = ask(OPEN_HALL, *moves(*ROUND, *ROUND), *[BACK] * 4, *moves(*ROUND))
        self.assertEqual(told[-4:], [came(line) for line in ROUND[:3]] + [came("d4-d5", 4)])
        told = ask(OPEN_HALL, *moves(*ROUND), *[BACK] * 4, *moves(*ROUND))
        self.assertEqual(told[-1], came("d4-d5"))

    def test_moves_taken_back_do_not_count_for_the_limit(self):
        one = hall("hb2 hf2 Kd5", "", limit="3")
        told = ask(one, *[move("b2-b3"), BACK] * 5, *moves(*ROUND[:3]))
        self.assertEqual(told[-3:], [came("b2-b3"), came("d5-d4"), came("b3-b2", 5)])

    def test_said_made_and_refused_calls_between(self):
        straight = ask(OPEN_HALL, *moves(*ROUND, *ROUND))[1:]
        between = [say("z"), end(9), [0, 1, 65], move("a1-a2"), end(2), end(1), say("z"), move("a1-a2"), BACK]
        mixed = [OPEN_HALL]
        for line in ROUND + ROUND:
            mixed += between + [say(line)]
        told = ask(*mixed)[1:]
        self.assertEqual(told[9::10], straight)
        refused = [[-5, 0], [-1], [-6, 1, 0], [-2], [0], [-4], [-4], [-4], [0]]
        self.assertEqual([told[10 * k:10 * k + 9] for k in range(8)], [refused] * 8)


if __name__ == "__main__":
    unittest.main()
