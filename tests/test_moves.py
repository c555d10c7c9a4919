"""move: which moves there are, what they take, and the refusals."""

import unittest

from helper import BACK, ask, came, cell, end, hall, last, move

from hallgames.moves import Position, list_of_moves
from hallgames.rulestext import read_rules

ENMITIES = ("quiet", "hunters", "men", "all")
AGAINST_HUNTERS = ("hunters", "all")
AGAINST_MEN = ("men", "all")


def goals_of(name, *calls):
    """The cells that the piece of this name can be moved to, found by trying every number."""
    found = []
    for number in range(200):
        told = last(*calls, [1, cell(name), number])
        if told[0] == 0:
            found.append("abcdefghijklm"[number % 13] + str(number // 13 + 1))
        else:
            assert told == [-2], told
    return sorted(found)


class Ways(unittest.TestCase):
    def goes(self, name, one, expected):
        self.assertEqual(goals_of(name, one), sorted(expected.split()))

    def test_a_piece_goes_along_its_row_and_column(self):
        self.goes("b2", hall("hb2 Kd5"), "a2 c2 d2 e2 f2 g2 b1 b3 b4 b5 b6 b7")
        self.goes("c3", hall("mc3 hb2 Kd5", first="king"), "a3 b3 d3 e3 f3 g3 c1 c2 c4 c5 c6 c7")

    def test_over_the_whole_of_a_large_ground(self):
        self.goes("m13", hall("hm13 Kd5", "", 13, 13),
                  "a13 b13 c13 d13 e13 f13 g13 h13 i13 j13 k13 l13 m1 m2 m3 m4 m5 m6 m7 m8 m9 m10 m11 m12")

    def test_pieces_and_walls_are_in_the_way(self):
        self.goes("b2", hall("hb2 hd2 mb4 Kd5", "#a2"), "c2 b1 b3")
        self.goes("d5", hall("hb2 hd2 md6 Kd5", "#b5 #g5", first="king"), "c5 e5 f5 d4 d3")

    def test_a_king_who_steps(self):
        self.goes("d4", hall("hb2 Kd4", king="steps armed two", first="king"), "c4 e4 d3 d5")
        self.goes("d4", hall("hc4 md5 Kd4", "#e4", king="steps armed two", first="king"), "d3")
        self.goes("c3", hall("hb1 mc3 Kd4", king="steps armed two", first="king"), "a3 b3 d3 e3 f3 g3 c1 c2 c4 c5 c6 c7")

    def test_the_seat_passed(self):
        self.goes("d2", hall("hd2 Kb3", seat="passed quiet"), "a2 b2 c2 e2 f2 g2 d1 d3 d5 d6 d7")
        self.goes("d2", hall("hf6 md2 Kb3", seat="passed quiet", first="king"), "a2 b2 c2 e2 f2 g2 d1 d3 d5 d6 d7")

    def test_the_seat_barred(self):
        self.goes("d2", hall("hd2 Kb3", seat="barred quiet"), "a2 b2 c2 e2 f2 g2 d1 d3")
        self.goes("d2", hall("hf6 md2 Kb3", seat="barred quiet", first="king"), "a2 b2 c2 e2 f2 g2 d1 d3")

    def test_the_seat_with_the_king_on_it(self):
        self.goes("d2", hall("hd2 Kd4", seat="passed quiet"), "a2 b2 c2 e2 f2 g2 d1 d3")

    def test_exits(self):
        for passing in ("passed quiet", "barred quiet"):
            self.goes("b2", hall("hb2 Kd5", "Sd4 Xb4 Xa2", seat=passing), "c2 d2 e2 f2 g2 b1 b3")
            self.goes("b2", hall("hf6 mb2 Kd5", "Sd4 Xb4 Xa2", seat=passing, first="king"), "c2 d2 e2 f2 g2 b1 b3")

    def test_the_king_stops_on_and_goes_over_any(self):
        self.goes("d2", hall("hf6 Kd2", "Sd4 Xd5 Xb2", seat="barred all", exits="all", first="king"),
                  "a2 b2 c2 e2 f2 g2 d1 d3 d4 d5 d6 d7")
        self.goes("d3", hall("hf6 Kd3", "Sd4 Xc3", king="steps bare two", seat="barred all", first="king"), "c3 e3 d2 d4")

    def test_the_king_goes_back_to_the_seat(self):
        one = hall("hb2 Kd4", seat="barred all", first="king")
        self.assertEqual(last(one, move("d4-d5"), move("b2-b3"), move("d5-d4")), came("d5-d4"))

    def test_the_other_sides_pieces_have_no_move(self):
        one = hall("hb2 mc3 Kd5")
        for line in ("c3-c2", "d5-d6"):
            self.assertEqual(last(one, move(line)), [-2])
        self.assertEqual(last(one, move("b2-b3"), move("b3-b2")), [-2])

    def test_taken_pieces_are_no_more(self):
        one = hall("hb2 hd4 mc4 hg1 Kf6", "")
        self.assertEqual(ask(one, move("b2-b4"), move("c4-c5"), move("f6-f5"), move("b4-c4"))[1:],
                         [came("b2-b4", taken="c4"), [-2], came("f6-f5"), came("b4-c4")])


class Order(unittest.TestCase):
    def test_by_the_cell_they_begin_on_then_by_the_one_they_come_to(self):
        game_rules = read_rules(hall("hb2 hc4 hf2 Kd6", "#b3 #c5 #f3")[2:])
        position = Position(game_rules.board, game_rules.first)
        self.assertEqual(list_of_moves(game_rules, position),
                         [(cell(line[:2]), cell(line[3:])) for line in
                          ("b2-b1 b2-a2 b2-c2 b2-d2 b2-e2 f2-f1 f2-c2 f2-d2 f2-e2 f2-g2 "
                           "c4-c1 c4-c2 c4-c3 c4-a4 c4-b4 c4-d4 c4-e4 c4-f4 c4-g4").split()])


class NoMoves(unittest.TestCase):
    def test_numbers_that_are_no_cells_or_no_pieces(self):
        one = hall("hb2 hg7 Kd4")
        for x, y in ((0, 1), (cell("b2"), cell("b2")), (cell("b2"), cell("c3")), (cell("g7"), cell("g7") + 1),
                     (cell("g7"), cell("g7") + 13), (7, 8), (12, 13), (168, 169), (169, 168), (13 * 7, 13 * 6),
                     (4294967295, 4294967295), (cell("b2"), 4294967295), (4294967295, cell("b3")),
                     (cell("b2") + 169, cell("b3"))):
            self.assertEqual(last(one, [1, x, y]), [-2], (x, y))

    def test_rows_end_at_the_grounds_edge(self):
        one = hall("hm3 ha4 Kd5", "", 13, 13)
        self.assertEqual(last(one, move("m3-a4")), [-2])
        self.assertEqual(last(one, move("m3-b4")), [-2])
        self.assertEqual(last(one, move("a4-m3")), [-2])

    def test_numbers_of_cells(self):
        self.assertEqual(last(hall("hd4 Kb3", ""), [1, 42, 55]), [0, 3, 42, 55, 0])


def taken_by(mover, victim, behind, ground, **words):
    """The cells taken when mover has come to b4, victim being on c4 and behind, if anybody, on d4."""
    pieces = f"{mover}b2 {victim}c4 hg1"
    if behind != ".":
        pieces += f" {behind}d4"
    if "K" not in mover + victim + behind:
        pieces += " Kf6"
    told = last(hall(pieces, ground, first="hunters" if mover == "h" else "king", **words), move("b2-b4"))
    assert told[:4] == [0, len(told) - 2, cell("b2"), cell("b4")], told
    return told[5:]


def taken_beside_king(mover, victim, ground, **words):
    """The same with the king on d4, where he goes to in the game: he can't start on an exit."""
    one = hall(f"{mover}b2 {victim}c4 hg1 Kd6", ground, first="king", **words)
    calls = [move("d6-d4")] if mover == "h" else [move("d6-d4"), move("g1-g2")]
    told = last(one, *calls, move("b2-b4"))
    assert told[:4] == [0, len(told) - 2, cell("b2"), cell("b4")], told
    return told[5:]


class Taking(unittest.TestCase):
    def takes(self, yes, told, what):
        self.assertEqual(told, [cell("c4")] if yes else [], what)

    def test_a_man_between_hunters(self):
        for behind, yes in (("h", True), ("m", False), ("K", False), (".", False)):
            for king in ("slides armed two", "slides bare four"):
                self.takes(yes, taken_by("h", "m", behind, "", king=king), behind)

    def test_a_hunter_taken_by_a_mans_move(self):
        for behind, armed, yes in (("m", "armed", True), ("m", "bare", True), ("K", "armed", True),
                                   ("K", "bare", False), ("h", "armed", False), (".", "armed", False)):
            self.takes(yes, taken_by("m", "h", behind, "", king=f"slides {armed} two"), (behind, armed))

    def test_a_hunter_taken_by_the_kings_move(self):
        for behind, armed, yes in (("m", "armed", True), ("m", "bare", False), ("h", "armed", False),
                                   (".", "armed", False)):
            self.takes(yes, taken_by("K", "h", behind, "", king=f"slides {armed} two"), (behind, armed))

    def test_none_of_ones_own_is_taken(self):
        self.takes(False, taken_by("h", "h", "h", ""), "hunters")
        self.takes(False, taken_by("m", "m", "m", ""), "men")
        self.takes(False, taken_by("m", "K", "m", ""), "men about the king")

    def test_the_seat_with_nobody_on_it(self):
        for passing in ("passed", "barred"):
            for enmity in ENMITIES:
                seat = f"{passing} {enmity}"
                self.takes(enmity in AGAINST_MEN, taken_by("h", "m", ".", "Sd4", seat=seat), seat)
                self.takes(enmity in AGAINST_HUNTERS, taken_by("m", "h", ".", "Sd4", seat=seat), seat)
                self.takes(enmity in AGAINST_HUNTERS, taken_by("K", "h", ".", "Sd4", seat=seat), seat)
                self.takes(False, taken_by("K", "h", ".", "Sd4", seat=seat, king="slides bare two"), seat)

    def test_the_seat_with_the_king_on_it(self):
        for enmity in ENMITIES:
            seat = f"passed {enmity}"
            self.takes(False, taken_by("h", "m", "K", "Sd4", seat=seat), seat)
            self.takes(False, taken_by("m", "h", "K", "Sd4", seat=seat, king="slides bare two"), seat)
            self.takes(True, taken_by("m", "h", "K", "Sd4", seat=seat, king="slides armed two"), seat)

    def test_an_exit_with_nobody_on_it(self):
        for exits in ENMITIES:
            self.takes(exits in AGAINST_MEN, taken_by("h", "m", ".", "Xd4", exits=exits), exits)
            self.takes(exits in AGAINST_HUNTERS, taken_by("m", "h", ".", "Xd4", exits=exits), exits)
            self.takes(exits in AGAINST_HUNTERS, taken_by("K", "h", ".", "Xd4", exits=exits), exits)

    def test_an_exit_with_the_king_on_it(self):
        for exits in ENMITIES:
            bare = {"exits": exits, "king": "slides bare two"}
            armed = {"exits": exits, "king": "slides armed two"}
            self.takes(exits in AGAINST_MEN, taken_beside_king("h", "m", "Xd4", **bare), exits)
            self.takes(exits in AGAINST_MEN, taken_beside_king("h", "m", "Xd4", **armed), exits)
            self.takes(exits in AGAINST_HUNTERS, taken_beside_king("m", "h", "Xd4", **bare), exits)
            self.takes(True, taken_beside_king("m", "h", "Xd4", **armed), exits)

    def test_seat_and_exits_have_enmities_of_their_own(self):
        self.takes(False, taken_by("h", "m", ".", "Sd4", seat="passed quiet", exits="all"), "seat")
        self.takes(False, taken_by("h", "m", ".", "Sa1 Xd4", seat="passed all", exits="quiet"), "exit")

    def test_a_wall_or_the_edge_behind(self):
        words = {"seat": "passed all", "exits": "all"}
        self.takes(False, taken_by("h", "m", ".", "Sf1 #d4", **words), "a wall")
        self.takes(False, taken_by("m", "h", ".", "Sf1 #d4", **words), "a wall")
        one = hall("hb2 ma4 hg1 Kf6", "Sf1", **words)
        self.assertEqual(last(one, move("b2-b4")), came("b2-b4"))
        one = hall("hb11 ha12 hm12 mm11 Kf6", "Sf1", 13, 13, **words)
        self.assertEqual(last(one, move("b11-l11")), came("b11-l11"))
        one = hall("hb2 ma4 hm13 Kf6", "Sf1", 13, 13, **words)
        self.assertEqual(last(one, move("b2-b4")), came("b2-b4"))
        one = hall("hb2 mm13 hm1 Kf6", "Sf1", 13, 13, **words)
        self.assertEqual(last(one, move("b2-b13")), came("b2-b13"))
        one = hall("hb2 ma4 hg1 Kf6", "Sf1 Xm13", 13, 13, **words)
        self.assertEqual(last(one, move("b2-b4")), came("b2-b4"))

    def test_only_beside_the_cell_it_has_come_to(self):
        self.assertEqual(last(hall("hb1 hd4 mc4 Kf6", ""), move("b1-b3")), came("b1-b3"))
        self.assertEqual(last(hall("ha2 md4 he4 hg1 Kf6", ""), move("a2-b2")), came("a2-b2"))
        self.assertEqual(last(hall("hb1 md4 hf4 Kf6", ""), move("b1-b4")), came("b1-b4"))

    def test_who_goes_between_two_is_not_taken(self):
        one = hall("hb4 hd4 mc2 hg1 Kf6", "", first="king")
        self.assertEqual(ask(one, move("c2-c4"), move("g1-g2"), move("c4-c5"))[1:],
                         [came("c2-c4"), came("g1-g2"), came("c4-c5")])
        self.assertEqual(last(hall("mb4 md4 hc2 hg1 Kf6", ""), move("c2-c4")), came("c2-c4"))

    def test_in_every_direction(self):
        for line, beside, behind in (("b4-b3", "b2", "b1"), ("b2-b3", "b4", "b5"), ("b2-c2", "d2", "e2"),
                                     ("d2-c2", "b2", "a2")):
            one = hall(f"h{line[:2]} m{beside} h{behind} Kf6", "")
            self.assertEqual(last(one, move(line)), came(line, taken=beside))

    def test_several_at_once_with_rising_numbers(self):
        self.assertEqual(last(hall("hd1 mc3 hb3 me3 hf3 md4 hd5 Kf6", ""), move("d1-d3")),
                         came("d1-d3", taken="c3 e3 d4"))
        self.assertEqual(last(hall("mc1 hb3 ma3 hd3 me3 hc4 Kc5 hg7", "", first="king"), move("c1-c3")),
                         came("c1-c3", taken="b3 d3 c4"))

    def test_men_and_the_king_at_once(self):
        one = hall("hd1 mc3 hb3 Ke3 hf3 md4 hd5", "")
        self.assertEqual(last(one, move("d1-d3")), came("d1-d3", 1, "c3 e3 d4"))


class TakingTheKingByTwo(unittest.TestCase):
    def taken(self, yes, told):
        self.assertEqual(told, came("b2-b4", 1, "c4") if yes else came("b2-b4"))

    def told(self, behind, ground, **words):
        pieces = "hb2 Kc4 hg1" + ("" if behind == "." else f" {behind}d4")
        return last(hall(pieces, ground, **words), move("b2-b4"))

    def test_who_stands_behind(self):
        for king in ("slides armed two", "slides bare two", "steps armed two"):
            self.taken(True, self.told("h", "", king=king))
            self.taken(False, self.told("m", "", king=king))
            self.taken(False, self.told(".", "", king=king))

    def test_what_lies_behind(self):
        for enmity in ENMITIES:
            self.taken(enmity in AGAINST_MEN, self.told(".", "Sd4", seat=f"passed {enmity}"))
            self.taken(enmity in AGAINST_MEN, self.told(".", "Xd4", exits=enmity))
        self.taken(False, self.told(".", "#d4 Sg7", seat="passed all", exits="all"))

    def test_on_the_edge(self):
        words = {"goal": "exits"}
        self.assertEqual(last(hall("hb2 Ka4 hg1 hg4", "Xg7", **words), move("b2-b4")), came("b2-b4"))
        self.assertEqual(last(hall("ha1 Ka4 ha5 hg1", "Xg7", **words), move("a1-a3")), came("a1-a3", 1, "a4"))

    def test_on_the_seat(self):
        self.assertEqual(last(hall("hb4 Kd4 he4", seat="passed all"), move("b4-c4")), came("b4-c4", 1, "d4"))

    def test_the_hunter_has_to_come_beside_him_and_across(self):
        one = hall("hb4 hd4 Kc2 hg1 hg5", "", king="slides bare two", first="king")
        self.assertEqual(last(one, move("c2-c4"), move("g1-g2")), came("g1-g2"))
        self.assertEqual(last(one, move("c2-c4"), move("g5-c5")), came("g5-c5"))

    def test_with_four_it_takes_more(self):
        self.taken(False, last(hall("hb2 Kc4 hd4 hg1", "", king="slides armed four"), move("b2-b4")))


class TakingTheKingByFour(unittest.TestCase):
    FOUR = "slides armed four"

    def told(self, others, ground="", **words):
        words.setdefault("king", self.FOUR)
        return last(hall("hb2 Kc4 hg1 " + others, ground, **words), move("b2-b4"))

    def taken(self, yes, told):
        self.assertEqual(told, came("b2-b4", 1, "c4") if yes else came("b2-b4"))

    def test_four_hunters(self):
        for king in ("slides armed four", "slides bare four", "steps bare four"):
            self.taken(True, self.told("hc5 hc3 hd4", king=king))

    def test_one_of_four_is_missing_or_a_man(self):
        for others in ("hc5 hc3", "hc5 hd4", "hc3 hd4", "hc5 hc3 md4", "mc5 hc3 hd4", "hc5 mc3 hd4"):
            self.taken(False, self.told(others))

    def test_the_seat_or_an_exit_in_the_place_of_one(self):
        for enmity in ENMITIES:
            for name, others in (("d4", "hc5 hc3"), ("c5", "hc3 hd4"), ("c3", "hc5 hd4")):
                self.taken(enmity in AGAINST_MEN, self.told(others, "S" + name, seat=f"passed {enmity}"))
                self.taken(enmity in AGAINST_MEN, self.told(others, "X" + name, exits=enmity))
        self.taken(True, self.told("hc3", "Sc5 Xd4", seat="passed men", exits="men"))

    def test_a_wall_holds_nobody(self):
        self.taken(False, self.told("hc5 hc3 mf6", "#d4 Sg7", seat="passed all", exits="all"))

    def test_on_the_edge_he_has_three_neighbours(self):
        one = hall("hb2 Ka4 ha5 ha3 hg1", "Xg7", king=self.FOUR, goal="exits")
        self.assertEqual(ask(one, move("b2-b4"))[1][:5], [0, 3, cell("b2"), cell("b4"), 3])
        one = hall("hb2 Ka4 ha5 ha3 hg1 mf6", "Xg7", king=self.FOUR, goal="exits", exits="all")
        self.assertEqual(last(one, move("b2-b4")), came("b2-b4"))

    def test_on_the_seat(self):
        one = hall("hb4 Kd4 hd5 hd3 he4", "Sd4", king=self.FOUR, seat="passed all")
        self.assertEqual(last(one, move("b4-c4")), came("b4-c4", 1, "d4"))

    def test_the_hunter_has_to_come_beside_him(self):
        one = hall("hc5 he5 hd6 Kd4 hg1", "Sd4", king=self.FOUR, seat="passed men", first="king")
        self.assertEqual(ask(one, move("d4-d5"), move("g1-g2"), move("d5-d4"))[1:],
                         [came("d4-d5"), came("g1-g2"), came("d5-d4")])

    def test_men_are_taken_as_ever(self):
        self.assertEqual(self.told("mb5 hb6 hd4"), came("b2-b4", 0, "b5"))
        self.assertEqual(self.told("mb5 hb6 hd4 hc5 hc3"), came("b2-b4", 1, "c4 b5"))


class Refusals(unittest.TestCase):
    def test_no_rules_before_all_else(self):
        self.assertEqual(ask(move("b2-b3"), [1, 4294967295, 0]), [[-3], [-3]])

    def test_over_or_ended_before_no_such_move(self):
        one = hall("hb2 Kd5", limit="1")
        self.assertEqual(last(one, move("b2-b3"), move("a1-a1")), [-4])
        self.assertEqual(last(one, end(0), [1, 4294967295, 0]), [-4])
        self.assertEqual(last(one, end(2), move("b2-b3")), [-4])

    def test_a_refused_move_changes_nothing(self):
        one = hall("hb2 hf2 Kd5")
        self.assertEqual(ask(one, move("b2-c3"), move("d5-d6"), BACK, move("b2-b3"), move("b3-b4"), move("d5-d6"))[1:],
                         [[-2], [-2], [-2], came("b2-b3"), [-2], came("d5-d6")])


if __name__ == "__main__":
    unittest.main()
