"""say: moves' lines, and the place where a text is no longer one."""

import unittest

from helper import BACK, LETTERS, ask, came, end, hall, last, move, say

# Hunters can go to many cells here; b2-b4 takes the man on c4.
PLAIN_HALL = hall("hb2 hf2 hd4 mc4 Ke6", "")


def name_of(number):
    return LETTERS[number % 13] + str(number // 13 + 1)


def line_of(told):
    """The move's line, from what move answered."""
    line = name_of(told[2]) + "-" + name_of(told[3])
    if len(told) > 5:
        line += "x" + ",".join(name_of(number) for number in told[5:])
    if 1 <= told[4] <= 3:
        line += "#" + str(told[4])
    return line


class Lines(unittest.TestCase):
    def test_a_plain_line(self):
        self.assertEqual(last(PLAIN_HALL, say("b2-b3")), came("b2-b3"))

    def test_a_line_that_takes(self):
        self.assertEqual(last(PLAIN_HALL, say("b2-b4xc4")), came("b2-b4", 0, "c4"))

    def test_several_taken_in_the_order_of_their_numbers(self):
        one = hall("hd1 mc3 hb3 me3 hf3 md4 hd5 Kf6", "")
        self.assertEqual(last(one, say("d1-d3xc3,e3,d4")), came("d1-d3", 0, "c3 e3 d4"))
        one = hall("hd9 mc11 hb11 me11 hf11 md12 hd13 Kf6", "", 13, 13)
        self.assertEqual(last(one, say("d9-d11xc11,e11,d12")), came("d9-d11", 0, "c11 e11 d12"))

    def test_over_by_1(self):
        self.assertEqual(last(hall("hb2 Kc4 hd4", ""), say("b2-b4xc4#1")), came("b2-b4", 1, "c4"))
        one = hall("hd1 mc3 hb3 Ke3 hf3 md4 hd5", "")
        self.assertEqual(last(one, say("d1-d3xc3,e3,d4#1")), came("d1-d3", 1, "c3 e3 d4"))

    def test_over_by_2(self):
        self.assertEqual(last(hall("hb2 Kd5", "", first="king"), say("d5-d7#2")), came("d5-d7", 2))

    def test_over_by_3(self):
        one = hall("hc4 mb2 md4 Ke6", "", first="king")
        self.assertEqual(last(one, say("b2-b4xc4#3")), came("b2-b4", 3, "c4"))

    def test_over_by_4_or_5_does_not_stand_in_the_line(self):
        one = hall("hb2 Kd5", "", limit="1")
        self.assertEqual(last(one, say("b2-b3#5")), [-5, 5])
        self.assertEqual(last(one, say("b2-b3")), came("b2-b3", 5))
        there_and_back = [say(line) for line in ("b2-b3", "d5-d4", "b3-b2", "d4-d5")]
        calls = [hall("hb2 Kd5", "")] + there_and_back + there_and_back[:3]
        self.assertEqual(last(*calls, say("d4-d5#4")), [-5, 5])
        self.assertEqual(last(*calls, say("d4-d5")), came("d4-d5", 4))

    def test_the_corners_of_the_largest_ground(self):
        one = hall("ha1 hm13 hm1 ha13 Kd5", "", 13, 13)
        for line in ("a1-a12", "m13-b13", "m1-m12", "a13-l13", "a1-l1"):
            self.assertEqual(last(one, say(line)), came(line))

    def test_say_and_move_make_the_same(self):
        halls = ((PLAIN_HALL, 7), (hall("hd1 mc3 hb3 Ke3 hf3 md4 hd5", ""), 7),
                 (hall("hc4 mb2 md4 Ke6 hg4", "Sa4 Xa1 Xg7 #d3", first="king", seat="barred all", exits="all"), 7),
                 (hall("ha1 hk13 hb11 ml12 Kd5", "Sd4 Xm13", 13, 13, goal="exits", king="steps bare four"), 13))
        for one, size in halls:
            cells = [13 * y + x for y in range(size) for x in range(size)]
            told = ask(one, *[call for x in cells for y in cells for call in ([1, x, y], BACK)])
            made = [answer for answer in told[1::2] if answer[0] == 0]
            self.assertGreater(len(made), 10)
            self.assertEqual(ask(one, *[call for answer in made for call in (say(line_of(answer)), BACK)])[1::2], made)


class Places(unittest.TestCase):
    def stops(self, one, text, place):
        self.assertEqual(last(one, say(text)), [-5, place], text)

    def test_at_the_first_byte(self):
        for text in ("", "a2-a3", "x", "B2-b3", "\x00", "\xff", "-", " b2-b3", "2b", "c4-c5", "e6-e5"):
            self.stops(PLAIN_HALL, text, 0)

    def test_within(self):
        for text, place in (("b3-b4", 1), ("b22-b3", 2), ("b2b3", 2), ("b2-b2", 4), ("b2-b8", 4), ("b2-d4", 4),
                            ("b2-g2", 3), ("b2-h2", 3), ("b2_b3", 2), ("b2-\xff", 3), ("f2-e1", 4), ("b02-b3", 1)):
            self.stops(PLAIN_HALL, text, place)

    def test_at_its_length(self):
        for text in ("", "b", "b2", "b2-", "b2-b", "b2-b4", "b2-b4x", "b2-b4xc"):
            self.stops(PLAIN_HALL, text, len(text))

    def test_more_than_a_line(self):
        for more in ("x", "xb3", "\n", " ", "#", "#0", "#1", "0", ",", "-b4"):
            self.stops(PLAIN_HALL, "b2-b3" + more, 5)
        for more in (",", ",d5", "x", "#1", "\n", "0"):
            self.stops(PLAIN_HALL, "b2-b4xc4" + more, 8)

    def test_what_is_taken_told_wrongly(self):
        for text, place in (("b2-b4xd4", 6), ("b2-b4xc5", 7), ("b2-b4#1", 5), ("b2-b4,c4", 5), ("b2-b4Xc4", 5)):
            self.stops(PLAIN_HALL, text, place)
        one = hall("hd1 mc3 hb3 me3 hf3 md4 hd5 Kf6", "")
        for text, place in (("d1-d3xd4,c3,e3", 6), ("d1-d3xc3", 8), ("d1-d3xc3,d4", 9), ("d1-d3xc3,e3", 11),
                            ("d1-d3xc3,e3,", 12), ("d1-d3xc3,e3,d4,", 14), ("d1-d3xc3;e3", 8)):
            self.stops(one, text, place)

    def test_how_it_is_over_told_wrongly(self):
        one = hall("hb2 Kd5", "", first="king")
        for text, place in (("d5-d7", 5), ("d5-d7#", 6), ("d5-d7#1", 6), ("d5-d7#3", 6), ("d5-d7#2#", 7),
                            ("d5-d7#22", 7), ("d5-d6#2", 5), ("d5-d7x", 5)):
            self.stops(one, text, place)

    def test_names_that_begin_alike(self):
        one = hall("hb1 hb11 Kd5", "", 13, 13)
        for text, place in (("b1-b11", 5), ("b1-b1", 5), ("b1-b12", 5), ("b12-b13", 2), ("b11-b1", 6),
                            ("b11-b14", 6), ("b11-b11", 6), ("b1-a10", 5), ("b", 1), ("b1", 2), ("b11", 3)):
            self.stops(one, text, place)
        for line in ("b1-b10", "b11-b12", "b11-b2", "b1-b2", "b1-a1"):
            self.assertEqual(last(one, say(line)), came(line))

    def test_one_line_may_be_anothers_beginning(self):
        one = hall("ha5 Kd5", "", 13, 13)
        self.assertEqual(last(one, say("a5-a1")), came("a5-a1"))
        self.assertEqual(last(one, say("a5-a10")), came("a5-a10"))
        self.stops(one, "a5-a14", 5)
        self.stops(one, "a5-a1x", 5)

    def test_a_long_text(self):
        self.stops(PLAIN_HALL, "b2-b3" * 4000, 5)


class Refusals(unittest.TestCase):
    def test_no_rules_before_all_else(self):
        self.assertEqual(ask(say("b2-b3"), say("")), [[-3], [-3]])

    def test_over_or_ended_before_the_place(self):
        one = hall("hb2 Kd5", "", limit="1")
        self.assertEqual(ask(one, say("b2-b3"), say(""), say("d5-d6"))[2:], [[-4], [-4]])
        self.assertEqual(ask(one, end(1), say(""), say("b2-b3"))[2:], [[-4], [-4]])

    def test_a_refused_say_changes_nothing(self):
        self.assertEqual(ask(PLAIN_HALL, say("b2-b4"), BACK, say("b2-b3 "), move("b2-b3"), say("x"), say("c4-c5"))[1:],
                         [[-5, 5], [-2], [-5, 5], came("b2-b3"), [-5, 0], came("c4-c5")])


if __name__ == "__main__":
    unittest.main()
