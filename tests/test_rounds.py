import unittest
from random import Random

from neverwait.errors import NoRanks
from neverwait.logs import stands_of
from neverwait.nets import Net
from neverwait.rounds import round_of
from neverwait.rules import Elder, Farthest, InTurn, Nearest, Ranked, Turns
from neverwait.runs import run
from neverwait.shapes import box_net, ring_net
from neverwait.stands import is_stand
from tests.samples import all_homes, all_rules, all_stands, mixed_net, random_letters, sample_nets

SQUARE = ring_net(4)
# Two rings of four houses, 0>1>3>5 and 2>1>4>5, which meet in 1 and 5.
EIGHT = Net(6, [(0, 1), (1, 3), (1, 4), (2, 1), (3, 5), (4, 5), (5, 0), (5, 2)])
# The same with other numbers: 0>2>1>5 and 3>2>4>5.
OTHER_EIGHT = Net(6, [(0, 2), (1, 5), (2, 1), (2, 4), (3, 2), (4, 5), (5, 0), (5, 3)])


class Home(unittest.TestCase):

    def test_no_letters_and_none_under_way(self):
        for most in (0, 1, 500):
            for rule in all_rules(0):
                self.assertEqual(round_of(rule, SQUARE, (), (), most), ("home", 0))
            for rule in all_rules(2):
                self.assertEqual(round_of(rule, SQUARE, (1, 2), (None, None), most), ("home", 0))

    def test_how_many_handings(self):
        for rule in all_rules(1):
            self.assertEqual(round_of(rule, ring_net(9), (4,), (0,), 500), ("home", 4))
        for rule in all_rules(2):
            # One of the two is led about once.
            self.assertEqual(round_of(rule, ring_net(6), (2, 2), (0, 0), 500), ("home", 4))

    def test_just_as_many_as_told_and_one_fewer(self):
        for rule in all_rules(2):
            self.assertEqual(round_of(rule, ring_net(6), (2, 2), (0, 0), 4), ("home", 4))
            for most in range(4):
                self.assertEqual(round_of(rule, ring_net(6), (2, 2), (0, 0), most), ("on",))


class Round(unittest.TestCase):

    def test_from_beat_0_on(self):
        # Each beat the two that are farther away take the ties that the two nearer ones need.
        homes, stand = (3, 2, 0, 1), (1, 1, 3, 3)
        self.assertEqual(run(Farthest(), SQUARE, homes, stand, 4), [(2, 0, 2, 0), (1, 1, 3, 3)] * 2)
        self.assertEqual(round_of(Farthest(), SQUARE, homes, stand, 500), ("round", 0, 2))

    def test_from_a_later_beat_on(self):
        homes, stand = (3, 3, 0), (1, 2, 1)
        stands = stands_of(homes, stand, run(Farthest(), EIGHT, homes, stand, 6))
        self.assertEqual(stands, [(1, 2, 1), (4, 1, 3), (5, None, 5), (0, None, 2), (1, None, 1), (4, None, 3),
                                  (5, None, 5)])
        self.assertEqual(round_of(Farthest(), EIGHT, homes, stand, 500), ("round", 2, 4))
        self.assertEqual(round_of(Farthest(), EIGHT, homes, stands[2], 500), ("round", 0, 4))

    def test_just_as_many_handings_as_it_needs_and_one_fewer(self):
        self.assertEqual(round_of(Farthest(), SQUARE, (3, 2, 0, 1), (1, 1, 3, 3), 2), ("round", 0, 2))
        self.assertEqual(round_of(Farthest(), EIGHT, (3, 3, 0), (1, 2, 1), 6), ("round", 2, 4))
        for most in (0, 1):
            self.assertEqual(round_of(Farthest(), SQUARE, (3, 2, 0, 1), (1, 1, 3, 3), most), ("on",))
        for most in range(6):
            self.assertEqual(round_of(Farthest(), EIGHT, (3, 3, 0), (1, 2, 1), most), ("on",))

    def test_by_turns_only_a_multiple_of_how_many_letters_there_are_counts(self):
        homes, stand = (3, 2, 1, 0), (1, 1, 3, 3)
        stands = stands_of(homes, stand, run(Turns(), SQUARE, homes, stand, 4))
        self.assertEqual(stands, [stand, (2, 0, 0, 2), stand, (2, 0, 0, 2), stand])
        self.assertEqual(round_of(Turns(), SQUARE, homes, stand, 500), ("round", 0, 4))
        self.assertEqual(round_of(Turns(), SQUARE, homes, stand, 4), ("round", 0, 4))
        for most in (2, 3):
            self.assertEqual(round_of(Turns(), SQUARE, homes, stand, most), ("on",))

    def test_by_turns_from_a_later_beat_on(self):
        homes, stand = (4, 0, 3, 4), (0, 2, 4, 2)
        self.assertEqual(round_of(Turns(), OTHER_EIGHT, homes, stand, 500), ("round", 2, 4))
        self.assertEqual(round_of(Turns(), OTHER_EIGHT, homes, stand, 6), ("round", 2, 4))
        self.assertEqual(round_of(Turns(), OTHER_EIGHT, homes, stand, 5), ("on",))

    def test_letters_that_are_not_under_way_count_for_the_turns(self):
        # Of four letters the one is first at house 1, the other at house 5, and takes the tie that the other one needs.
        self.assertEqual(round_of(Turns(), EIGHT, (0, 0, 3, 0), (1, None, 1, None), 500), ("round", 0, 4))
        self.assertEqual(round_of(Turns(), EIGHT, (0, 3), (1, 1), 500), ("home", 5))


class Ranks(unittest.TestCase):

    def test_not_as_many_as_letters(self):
        for most in (0, 1, 500):
            for stand in ((0, 0), (None, None), (0, None)):
                for many in (0, 1, 3):
                    with self.assertRaises(NoRanks):
                        round_of(Ranked((1,) * many), SQUARE, (2, 2), stand, most)
            with self.assertRaises(NoRanks):
                round_of(Ranked((0,)), SQUARE, (), (), most)

    def test_as_many(self):
        self.assertEqual(round_of(Ranked((5, 5)), SQUARE, (2, 2), (0, 0), 500), ("home", 2))
        self.assertEqual(round_of(Ranked(()), SQUARE, (), (), 0), ("home", 0))


class ByTheWords(unittest.TestCase):

    def check(self, rule, net, homes, stand, most):
        told = round_of(rule, net, homes, stand, most)
        self.assertIs(type(told), tuple)
        self.assertEqual(told, round_by_the_words(rule, net, homes, stand, most))
        self.found[told[0]] += 1

    def setUp(self):
        self.found = {"home": 0, "round": 0, "on": 0}

    def test_on_many_nets(self):
        chance = Random(80)
        for net in (sample_nets() + [SQUARE, EIGHT, OTHER_EIGHT, box_net((2, 2, 2))]) * 6:
            for rule in all_rules(6):
                homes, stand = random_letters(net, 6, chance)
                self.check(rule, net, homes, stand, chance.choice((0, 1, 3, 6, 12, 60)))
        self.assertGreater(min(self.found["home"], self.found["on"]), 100)

    def test_two_letters_where_rounds_meet(self):
        for homes in all_homes(EIGHT, 2):
            for one, other in all_stands(EIGHT, homes):
                for most in (5, 12):
                    self.check(Farthest(), EIGHT, homes, (one, other), most)
                    self.check(Turns(), EIGHT, (homes[0], 5, homes[1], 5), (one, None, other, None), most)
        self.assertGreater(min(self.found.values()), 10)

    def test_letters_about_a_square(self):
        for homes in all_homes(SQUARE, 4):
            for stand in ((1, 1, 3, 3), (1, 3, 3, 1)):
                if is_stand(SQUARE, homes, stand):
                    for rule in all_rules(4):
                        self.check(rule, SQUARE, homes, stand, 9)
        self.assertGreater(self.found["round"], 8)

    def test_by_elder_nearest_ranked_and_in_turn_all_come_home(self):
        chance = Random(81)
        for net in (sample_nets() + [SQUARE, EIGHT]) * 3:
            homes, stand = random_letters(net, 8, chance)
            for rule in (Elder(), Nearest(), InTurn(), Ranked(tuple(range(8, 0, -1)))):
                log = run(rule, net, homes, stand, 500)
                self.assertEqual(round_of(rule, net, homes, stand, 500), ("home", len(log)))

    def test_a_round_goes_on_for_ever(self):
        for rule, net, homes, stand in ((Farthest(), SQUARE, (3, 2, 0, 1), (1, 1, 3, 3)),
                                        (Farthest(), EIGHT, (3, 3, 0), (1, 2, 1)),
                                        (Turns(), SQUARE, (3, 2, 1, 0), (1, 1, 3, 3)),
                                        (Turns(), OTHER_EIGHT, (4, 0, 3, 4), (0, 2, 4, 2))):
            word, first, length = round_of(rule, net, homes, stand, 500)
            self.assertEqual(word, "round")
            stands = stands_of(homes, stand, run(rule, net, homes, stand, 100))
            for beat in range(first, 101 - length):
                self.assertEqual(stands[beat], stands[beat + length])

    def test_told_alike(self):
        net = mixed_net()
        ties = net.ties()
        for rule in all_rules(2):
            first = round_of(rule, net, (0, 0), (4, 2), 99)
            self.assertEqual(round_of(rule, net, (0, 0), (4, 2), 99), first)
        self.assertEqual(net.ties(), ties)


def round_by_the_words(rule, net, homes, stand, most):
    """Point 23, of all stands of a run."""
    log = run(rule, net, homes, stand, most)
    stands = stands_of(homes, stand, log)
    if not any(house is not None for house in stands[-1]):
        return "home", len(log)
    step = max(len(homes), 1) if isinstance(rule, Turns) else 1
    for first in range(len(stands)):
        for later in range(first + step, len(stands), step):
            if stands[first] == stands[later]:
                return "round", first, later - first
    return ("on",)


if __name__ == "__main__":
    unittest.main()
