"""begin: the grammar of rules' texts and their faults."""

import unittest

from helper import BACK, OPEN_GROUND, ask, begin, board, came, end, hall, last, move, rules

from hallgames.rulestext import read_rules

START = board("hb2 hf2 me4 Kd4")
RIGHT = rules(START)


def place_of(text, word):
    return text.index(word)


class RightTexts(unittest.TestCase):
    def right(self, text):
        self.assertEqual(ask(begin(text)), [[0]], text)

    def test_each_choice_of_words(self):
        corners = board("Sd4 Xa1 Xg7")
        for first in ("hunters", "king"):
            self.right(rules(START, first=first))
        for gait in ("slides", "steps"):
            for arms in ("armed", "bare"):
                for way in ("two", "four"):
                    self.right(rules(START, king=f"{gait} {arms} {way}"))
        for enmity in ("quiet", "hunters", "men", "all"):
            self.right(rules(START, seat=f"passed {enmity}"))
            self.right(rules(START, seat=f"barred {enmity}"))
            self.right(rules(START, exits=enmity))
        for goal in ("edge", "exits"):
            self.right(rules(START, corners, goal=goal))
        for thrice in ("drawn", "hunters", "king"):
            self.right(rules(START, thrice=thrice))

    def test_every_size(self):
        for wide in range(5, 14):
            for high in range(5, 14):
                self.right(rules(board("hb2 Kc3", wide, high), board("Sc3", wide, high)))

    def test_limits(self):
        for limit in ("1", "9", "10", "59999", "60000"):
            self.right(rules(START, limit=limit))

    def test_names(self):
        for name in ("A", "Z", "a", "z", "a0", "Z9", "K", "Abcdefghijklmno6"):
            self.right(rules(START, name=name))

    def test_no_seat_is_needed_where_it_is_passed_and_quiet(self):
        self.right(rules(START, board("")))

    def test_the_king_may_start_on_the_seat_and_on_the_edge(self):
        self.right(rules(board("hb2 Kd4"), board("Sd4")))
        self.right(rules(board("hb2 Ka4"), board("Sd4 Xa1"), goal="exits"))
        self.right(rules(board("hb2 Kd7"), board("Sd7 Xa1"), goal="exits"))

    def test_no_men_are_needed(self):
        self.right(rules(board("hb2 Kd4")))


class Grammar(unittest.TestCase):
    def faulty(self, text, place):
        self.assertEqual(ask(begin(text)), [[-6, 1, place]], text)

    def changed(self, old, new, within, **words):
        """The text with new in the place of old, at fault so many bytes behind its beginning."""
        text = rules(START, **words)
        self.assertEqual(text.count(old), 1, old)
        self.faulty(text.replace(old, new), text.index(old) + within)

    def test_cut_off(self):
        for length in range(len(RIGHT)):
            self.faulty(RIGHT[:length], length)

    def test_too_long(self):
        for more in ("\n", "0", " ", "t", RIGHT):
            self.faulty(RIGHT + more, len(RIGHT))

    def test_a_byte_that_goes_nowhere(self):
        for place in range(len(RIGHT)):
            for byte in ("\x00", "\xff", "\r", "_"):
                self.faulty(RIGHT[:place] + byte + RIGHT[place + 1:], place)

    def test_capital_letters(self):
        self.changed("tafl", "Tafl", 0)
        self.changed("ground", "grounD", 5)

    def test_names(self):
        self.changed("Hall", "", 0)
        self.changed("Hall", "7all", 0)
        self.changed("Hall", "Ha-ll", 2)
        self.changed("Hall", "Abcdefghijklmnopq", 16)
        self.changed("Hall", "Abcdefghijklmno67", 16)
        self.changed("Hall ", "Hall  ", 5)
        for sign in "@[`{/:":
            self.changed("Hall", sign, 0)
            self.changed("Hall", "H" + sign, 1)

    def test_sizes(self):
        for size, within in (("", 0), ("0", 0), ("05", 0), ("4", 0), ("2", 0), ("1", 1), ("14", 1), ("19", 1),
                             ("100", 2), ("130", 2), ("55", 1), ("90", 1), ("-5", 0), ("+5", 0), (" 5", 0)):
            self.changed(" 7 ", " " + size + " ", 1 + within)
            self.changed(" 7\n", " " + size + "\n", 1 + within)

    def test_limits(self):
        for limit, within in (("", 0), ("0", 0), ("01", 0), ("60001", 4), ("60010", 4), ("61000", 4), ("70000", 4),
                              ("100000", 5), ("600000", 5), ("99999", 4), ("6001 ", 4), ("-1", 0), ("1.", 1)):
            self.changed("limit 1000", "limit " + limit, 6 + within)

    def test_a_row_too_short_or_too_long(self):
        self.changed("...S...", "...S..", 6)
        self.changed("...S...", "...S....", 7)
        self.changed("...Km..", "...Km.", 6)
        self.changed("...Km..", "...Km...", 7)

    def test_a_row_too_few_or_too_many(self):
        self.changed("...S...\n", "", 8 * 4 - 8)
        self.changed("...S...\n", "...S...\n" * 2, 8 * 4)
        self.changed("...Km..\n", "", 8 * 4 - 8)
        self.changed("...Km..\n", "...Km..\n" * 2, 8 * 4)

    def test_signs_of_the_other_rows(self):
        for sign in "hmK ":
            self.changed("...S...", ".." + sign + "S...", 2)
        for sign in "SX# ":
            self.changed("...Km..", ".." + sign + "Km..", 2)

    def test_words(self):
        self.changed("first hunters", "first huntersx", 13)
        self.changed("first hunters", "first kong", 7)
        self.changed("first hunters", "first men", 6)
        self.changed("slides", "strides", 2)
        self.changed("slides", "sleds", 2)
        self.changed("slides", "walks", 0)
        self.changed("armed two", "armed three", 7)
        self.changed("armed two", "bared two", 4)
        self.changed("two", "fours", 4)
        self.changed("passed", "pasted", 3)
        self.changed("passed", "barrier", 4)
        self.changed("exits quiet", "exits king", 6)
        self.changed("exits quiet", "exits hunter\n", 12)
        self.changed("exits quiet", "exits ale", 8)
        self.changed("goal edge", "goal exit\n", 9)
        self.changed("goal edge", "goal ends", 6)
        self.changed("thrice drawn", "thrice men", 7)
        self.changed("thrice drawn", "thrice drown", 9)

    def test_lines_in_another_order(self):
        self.changed("first hunters\nking slides", "king slides\nfirst hunters", 0)

    def test_grammar_comes_before_all_other_faults(self):
        text = rules(board("hb2 Kd4"), board("Sd4 Sa1"))
        self.faulty(text[:-1], len(text) - 1)
        self.faulty(text + "\n", len(text))


class OtherFaults(unittest.TestCase):
    def faulty(self, text, kind, place):
        self.assertEqual(ask(begin(text)), [[-6, kind, place]], text)

    def spot(self, text, part, name, wide=7, high=7):
        """The place of a cell's sign in the rows of ground or start."""
        first = text.index("\n" + part + "\n") + len(part) + 2
        return first + (high - int(name[1:])) * (wide + 1) + "abcdefghijklm".index(name[0])

    def test_2_a_second_seat(self):
        for seats, second in (("Sd4 Se4", "e4"), ("Sd4 Sg7", "d4"), ("Sa1 Sg1 Sd3", "a1")):
            text = rules(START, board(seats))
            self.faulty(text, 2, self.spot(text, "ground", second))

    def test_3_a_piece_where_it_may_not_be(self):
        for piece, ground in (("h", "#"), ("m", "#"), ("K", "#"), ("h", "S"), ("m", "S"),
                              ("h", "X"), ("m", "X"), ("K", "X")):
            pieces = f"hb2 {piece}c3" if piece == "K" else f"hb2 Kd5 {piece}c3"
            text = rules(board(pieces), board(f"{ground}c3"))
            self.faulty(text, 3, self.spot(text, "start", "c3"))

    def test_3_the_first_of_several(self):
        text = rules(board("ha1 hg7 hb2 Kd5"), board("#a1 #g7"))
        self.faulty(text, 3, self.spot(text, "start", "g7"))

    def test_3_on_a_ground_that_is_wide_and_low(self):
        text = rules(board("hm1 Kc3", 13, 5), board("Xm1", 13, 5))
        self.faulty(text, 3, self.spot(text, "start", "m1", 13, 5))

    def test_4_a_second_king(self):
        for kings, second in (("Kd4 Ke4", "e4"), ("Kd4 Kd5", "d4"), ("Kc3 Kd3 Kb3", "c3")):
            text = rules(board("hb2 " + kings))
            self.faulty(text, 4, self.spot(text, "start", second))

    def test_5_no_exit_to_reach(self):
        text = rules(START, goal="exits")
        self.faulty(text, 5, place_of(text, "goal ") + 5)

    def test_5_the_king_starts_on_the_edge(self):
        for name in ("a1", "a4", "g4", "d1", "d7", "g7"):
            text = rules(board("hb2 K" + name), board("Xe5"))
            self.faulty(text, 5, place_of(text, "goal ") + 5)

    def test_5_the_edge_of_a_ground_that_is_not_square(self):
        for name in ("g3", "m3", "c5"):
            text = rules(board("hb2 K" + name, 13, 5), board("", 13, 5))
            if name == "g3":
                self.assertEqual(ask(begin(text)), [[0]])
            else:
                self.faulty(text, 5, place_of(text, "goal ") + 5)

    def test_6_somebody_or_something_is_missing(self):
        for text in (rules(board("hb2")), rules(board("Kd4")), rules(board("")),
                     rules(START, board("Xa1"), seat="barred quiet"), rules(START, board("Xa1"), seat="passed men"),
                     rules(START, board(""), seat="passed hunters"), rules(START, board(""), seat="barred all")):
            self.faulty(text, 6, len(text))

    def test_two_faults_the_first_by_place(self):
        text = rules(board("ha1 Kd4"), board("#a1 Sd4 Sd5"))
        self.faulty(text, 2, self.spot(text, "ground", "d4"))
        text = rules(board("ha1 Kd4 Ke4 hb2"), board("#a1"))
        self.faulty(text, 4, self.spot(text, "start", "e4"))
        text = rules(board("ha7 Kd4 Ke4 hb2"), board("#a7"))
        self.faulty(text, 3, self.spot(text, "start", "a7"))
        text = rules(board("Kd4 Ke4"), goal="exits")
        self.faulty(text, 4, self.spot(text, "start", "e4"))
        text = rules(board("Kd4"), goal="exits")
        self.faulty(text, 5, place_of(text, "goal ") + 5)
        text = rules(board("Ka4"))
        self.faulty(text, 5, place_of(text, "goal ") + 5)

    def test_two_faults_at_one_place_the_lesser_kind(self):
        for ground in "#X":
            text = rules(board("hb2 Kd5 Kd4"), board(f"{ground}d4"))
            self.faulty(text, 3, self.spot(text, "start", "d4"))


class Object(unittest.TestCase):
    def test_a_refused_begin_leaves_no_rules(self):
        self.assertEqual(ask(begin(""), BACK, end(0), begin("tafl"), move("b2-b3")),
                         [[-6, 1, 0], [-3], [-3], [-6, 1, 4], [-3]])

    def test_a_refused_begin_leaves_the_game_as_it_was(self):
        told = ask(hall("hb2 hf2 Kd4"), move("b2-b3"), begin(RIGHT[:-1]), move("d4-d5"), begin(rules(board("hb2"))),
                   BACK, BACK, BACK)
        self.assertEqual(told[3:], [came("d4-d5"), [-6, 6, len(rules(board("hb2")))], [0], [0], [-2]])

    def test_a_refused_begin_leaves_an_ending(self):
        self.assertEqual(ask(hall("hb2 Kd4"), end(2), begin("x"), end(2)), [[0], [0], [-6, 1, 0], [-4]])

    def test_a_begin_that_goes_starts_anew(self):
        told = ask(hall("hb2 hf2 Kd4"), move("b2-b3"), end(0), hall("hc2 Kd5", first="king"), BACK, move("b2-b3"),
                   move("d5-e5"))
        self.assertEqual(told[3:], [[0], [-2], [-2], came("d5-e5")])

    def test_the_same_rules_anew(self):
        one = hall("hb2 hf2 Kd4")
        self.assertEqual(ask(one, move("b2-b3"), one, move("b2-b3")), [[0], came("b2-b3"), [0], came("b2-b3")])

    def test_times_seen_start_anew(self):
        one = hall("hb2 hf2 Kd4")
        twice = [move(line) for line in ("b2-b3", "d4-d5", "b3-b2", "d5-d4")]
        self.assertEqual(last(one, *twice, one, *twice, one, *twice), came("d5-d4"))


class WhatItSays(unittest.TestCase):
    def says(self, part, expected, **words):
        read = read_rules(list(rules(START, board("Sd4 Xa1 #g7"), **words).encode()))
        self.assertEqual(getattr(read, part), expected, words)

    def test_the_number_of_each_word(self):
        for number, word in enumerate(("hunters", "king")):
            self.says("first", number, first=word)
        for number, word in enumerate(("steps", "slides")):
            self.says("slides", number, king=word + " armed two")
        for number, word in enumerate(("bare", "armed")):
            self.says("armed", number, king=f"slides {word} two")
        for number, word in enumerate(("two", "four")):
            self.says("four", number, king="slides bare " + word)
        for number, word in enumerate(("barred", "passed")):
            self.says("passed", number, seat=word + " men")
        for number, word in enumerate(("quiet", "hunters", "men", "all")):
            self.says("seat", number, seat="passed " + word)
            self.says("exits", number, exits=word)
        for number, word in enumerate(("edge", "exits")):
            self.says("goal", number, goal=word)
        for number, word in enumerate(("drawn", "hunters", "king")):
            self.says("thrice", number, thrice=word)
        for number in (1, 10, 59999, 60000):
            self.says("limit", number, limit=str(number))

    def test_who_moves_first(self):
        for first, goes, stays in (("hunters", "b2-b3", "d4-d5"), ("king", "d4-d5", "b2-b3")):
            one = hall("hb2 Kd4", first=first)
            self.assertEqual(last(one, move(goes)), came(goes))
            self.assertEqual(last(one, move(stays)), [-2])

    def test_rows_are_told_from_the_uppermost(self):
        text = rules("......h ....... ....... ..K.... ....... ....... .......", OPEN_GROUND)
        self.assertEqual(last(begin(text), move("g7-g6")), came("g7-g6"))

    def test_high_and_wide(self):
        one = hall("hm5 hb2 Kc3", "", 13, 5)
        self.assertEqual(last(one, move("m5-m1")), came("m5-m1"))
        self.assertEqual(last(one, move("m5-m6")), [-2])
        one = hall("he13 hb2 Kc3", "", 5, 13)
        self.assertEqual(last(one, move("e13-a13")), came("e13-a13"))
        self.assertEqual(last(one, move("e13-f13")), [-2])


if __name__ == "__main__":
    unittest.main()
