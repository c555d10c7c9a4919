"""D1 to D5, over all ten calls: games that came to the same row of moves tell the same by every call."""

import random
import unittest

from helper import BACK, NOW, OPEN_HALL, ROUND, SAMPLES, Sample, ask, at, begin, board, end, game, hall, last, made
from helper import move, read, rules, say, says, text

from hallgames.lines import cell_name, whole_line
from hallgames.moves import Position, list_of_moves, outcome
from hallgames.rulestext import read_rules

MOST = 4294967295


def asked_of(count):
    """Every call that only tells, for a game of so many moves."""
    return [NOW] + [at(k) for k in range(count + 2)] + [made(k) for k in range(count + 2)] + [text(), at(MOST), made(MOST)]


def tells(calls, count):
    asked = asked_of(count)
    return ask(*calls, *asked)[-len(asked):]


def by_read(sample):
    return [sample.begin, read(game(*sample.lines, end=sample.words()))]


def read_over_another(sample):
    return [sample.begin, end(1), read(game(*sample.lines, end=sample.words()))]


def read_then_said(sample):
    half = len(sample.lines) // 2
    return [sample.begin, read(game(*sample.lines[:half]))] + sample.by_say()[half + 1:]


def with_backs(sample):
    """Each move made, said and ended, and taken back before it is made for good."""
    calls = [sample.begin]
    made_by_move = sample.by_move()[1:]
    for number, line in enumerate(sample.lines):
        there = made_by_move[number]
        calls += [there, BACK, say(line), BACK, end(0), BACK, end(2), end(1), BACK, there]
    if sample.ending is not None:
        calls += [end(sample.ending), BACK, end(2), BACK, end(sample.ending)]
    return calls


def all_the_way_back(sample):
    whole = sample.by_move()
    return whole + [BACK] * (len(whole) - 1) + sample.by_say()[1:]


def with_refused_calls(sample):
    calls = []
    for call in sample.by_say():
        calls += [call, move("a1-a1"), say("?"), end(3), begin("tafl"), at(MOST), made(MOST), text("", ""), read("game")]
    return calls


def behind_other_games(sample):
    return [OPEN_HALL, move("b2-b3"), sample.begin, end(0)] + sample.by_move()


WAYS = (by_read, read_over_another, read_then_said, with_backs, all_the_way_back, with_refused_calls, behind_other_games,
        Sample.by_say)


def wandered(one, seed):
    """A game by these rules, as a sample, by moves that a seed picks; back and forth often, so that thrice comes up."""
    picks = random.Random(seed)
    game_rules = read_rules(one[2:])
    position = Position(game_rules.board, game_rules.first)
    lines = []
    past = []
    over = 0
    while over == 0 and len(lines) < 24:
        found = list_of_moves(game_rules, position)
        homewards = [there for there in found if there[::-1] in past[-2:]]
        x, y = picks.choice(homewards if homewards and picks.random() < 0.6 else found)
        lines.append(whole_line(game_rules, position, x, y))
        past.append((x, y))
        position = outcome(game_rules, position, x, y).position
        over, won = last(one, *says(*lines), NOW)[-3:-1]
    ending = None
    if over == 0:
        ending, over, won = picks.choice(((None, 0, 3), (0, 6, 1), (1, 6, 0), (2, 7, 2)))
    return Sample(one, tuple(lines), ending, over, won)


HALLS = (hall("hb2 hf2 hd7 mc4 me4 Kd4", seat="barred all", king="steps armed four"),
         hall("hb2 hf2 hd6 ha4 mc4 me4 Kd4", "Sd4 Xa1 Xg7 Xa7 Xg1 #c6", goal="exits", exits="all", seat="passed men",
              king="slides bare two", thrice="king"),
         hall("hb2 hd2 mb4 Kc3", "Sc3 #a1", 5, 5, first="king", thrice="hunters"),
         hall("ha1 he1 hm11 hk13 ml3 mb12 me10 Kf6", "Sg7", 13, 13, king="slides armed four", limit="20"))
WANDERED = tuple(wandered(one, seed) for one in HALLS for seed in range(12))


class D1(unittest.TestCase):
    def test_whichever_way_it_came_there(self):
        for sample in SAMPLES + WANDERED:
            straight = tells(sample.by_move(), len(sample.lines))
            for way in WAYS:
                self.assertEqual(tells(way(sample), len(sample.lines)), straight, (way.__name__, sample.lines))

    def test_many_kinds_of_games_were_tried(self):
        self.assertEqual({sample.over for sample in SAMPLES}, set(range(8)))
        self.assertEqual({sample.won for sample in SAMPLES}, set(range(4)))
        self.assertGreater(len({sample.over for sample in WANDERED}), 4)
        self.assertTrue(any("x" in line for sample in WANDERED for line in sample.lines))

    def test_at_is_what_now_was_then(self):
        for sample in SAMPLES + WANDERED:
            calls = [sample.begin, NOW]
            for line in sample.lines:
                calls += [say(line), NOW]
            nows = [told for told in ask(*calls)[1::2]]
            count = len(sample.lines)
            ats = tells(sample.by_move(), count)[1:count + 2]
            self.assertEqual(ats, [told[:-4] + told[-1:] for told in nows])
            self.assertEqual([told[-4] for told in nows], list(range(count + 1)))


class D2(unittest.TestCase):
    def test_back_undoes_move_say_and_end(self):
        for sample in SAMPLES + WANDERED:
            before = [sample.begin]
            for number, line in enumerate(sample.lines):
                straight = tells(before, number)
                there = sample.by_move()[number + 1]
                for call in (there, say(line), end(0), end(1), end(2)):
                    self.assertEqual(tells(before + [call, BACK], number), straight)
                before = before + [there]


class D3(unittest.TestCase):
    def test_a_games_text_read_into_any_object_with_these_rules(self):
        for sample in SAMPLES + WANDERED:
            count = len(sample.lines)
            straight = tells(sample.by_move(), count)
            source = bytes(last(*sample.by_move(), text("Q", "Zz9"))[2:]).decode()
            for calls in ([sample.begin], sample.by_move(), [sample.begin, end(0)]):
                self.assertEqual(last(*calls, read(source)), [0])
                self.assertEqual(tells(calls + [read(source)], count), straight)

    def test_a_text_is_read_or_has_one_place_of_fault(self):
        picks = random.Random(7)
        for sample in WANDERED[::4]:
            source = game(*sample.lines, end=sample.words())
            for count in range(60):
                place = picks.randrange(len(source))
                changed = source[:place] + picks.choice("abe123-x#\n ,nd") + source[place + picks.randrange(2):]
                told = last(sample.begin, read(changed))
                if told != [0]:
                    self.assertEqual((len(told), told[0]), (2, -5))
                    self.assertLessEqual(told[1], len(changed))
                    # All in front of the fault goes on as before: cut off there, the fault is the text's length.
                    self.assertEqual(last(sample.begin, read(changed[:told[1]])), told)
                else:
                    self.assertEqual(last(sample.begin, read(changed), text())[2:],
                                     list(("game Ann Bo" + changed[changed.index("\n"):]).encode()))


class D4(unittest.TestCase):
    def test_nothing_goes_on_once_it_is_over(self):
        for sample in SAMPLES + WANDERED:
            if sample.over != 0:
                straight = tells(sample.by_move(), len(sample.lines))
                for way in (Sample.by_move, by_read):
                    tried = [move("b2-b3"), move("d5-d4"), say("b2-b3"), say("d5-d4"), say(""), end(0), end(1), end(2)]
                    tried += [say(line) for line in sample.lines[-2:]]
                    told = ask(*way(sample), *tried)
                    self.assertEqual(told[-len(tried):], [[-4]] * len(tried))
                    self.assertEqual(tells(way(sample) + tried, len(sample.lines)), straight)


class D5(unittest.TestCase):
    REFUSED = (begin(""), begin("tafl Hall 5 5\n"), move("a1-a1"), [1, MOST, MOST], say(""), say("b2-b"), end(3), end(MOST),
               at(MOST), made(MOST), text("", "Bo"), text("Ann", ""), read(""), read("game Ann Bo\nrules Hall\nend open ope"),
               begin(rules(board("hb2"))))

    def test_a_refused_call_changes_nothing(self):
        for sample in SAMPLES + WANDERED[::5]:
            count = len(sample.lines)
            straight = tells(sample.by_move(), count)
            for call in self.REFUSED:
                self.assertLess(last(*sample.by_move(), call)[0], 0)
                self.assertEqual(tells(sample.by_move() + [call], count), straight, call)

    def test_back_that_is_refused(self):
        for one in HALLS:
            self.assertEqual(ask(one, BACK)[1], [-2])
            self.assertEqual(tells([one, BACK, BACK], 0), tells([one], 0))

    def test_a_read_that_is_refused_at_each_place(self):
        source = game(*ROUND, end="king given")
        straight = tells([OPEN_HALL, move("f2-f3"), end(1)], 1)
        for length in range(len(source)):
            calls = [OPEN_HALL, move("f2-f3"), end(1), read(source[:length])]
            self.assertEqual(tells(calls, 1), straight)

    def test_without_rules(self):
        calls = [call for call in self.REFUSED if call[0] != 0] + [BACK, NOW, text(), read(game()), end(0), at(0), made(0)]
        self.assertEqual(ask(*calls), [[-3]] * len(calls))
        self.assertEqual(tells(calls + [OPEN_HALL], 0), tells([OPEN_HALL], 0))


class Names(unittest.TestCase):
    def test_cells(self):
        self.assertEqual([cell_name(number) for number in (0, 12, 13, 42, 156, 168)], ["a1", "m1", "a2", "d4", "a13", "m13"])


if __name__ == "__main__":
    unittest.main()
