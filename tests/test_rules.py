import unittest

from neverwait.errors import NoRanks
from neverwait.rules import Elder, Farthest, InTurn, Nearest, Ranked, Rule, Turns
from neverwait.shapes import ring_net
from tests.samples import all_rules, mixed_net, odd_things

RING = ring_net(8)
HOMES = (4, 3, 2, 1, 2, 7)
STAND = (0, 0, None, 3, 5, 4)
# How far home: 4, 3, not under way, 2, 3, 3.


class Classes(unittest.TestCase):

    def test_each_stands_straight_under_rule(self):
        for rule in all_rules(3):
            self.assertIsInstance(rule, Rule)
            self.assertEqual(type(rule).__bases__, (Rule,))
        self.assertEqual(len({type(rule) for rule in all_rules(3)}), 6)


class Order(unittest.TestCase):

    def test_elder_and_in_turn_go_by_number(self):
        for rule in (Elder(), InTurn()):
            for beat in (0, 1, 5, 6, 100):
                self.assertEqual(rule.order(RING, HOMES, STAND, beat), [0, 1, 3, 4, 5])

    def test_nearest(self):
        self.assertEqual(Nearest().order(RING, HOMES, STAND, 0), [3, 1, 4, 5, 0])
        self.assertEqual(Nearest().order(RING, HOMES, STAND, 9), [3, 1, 4, 5, 0])
        self.assertEqual(Nearest().order(RING, (4, 4, 4), (0, 3, 3), 0), [1, 2, 0])

    def test_farthest(self):
        self.assertEqual(Farthest().order(RING, HOMES, STAND, 0), [0, 1, 4, 5, 3])
        self.assertEqual(Farthest().order(RING, HOMES, STAND, 9), [0, 1, 4, 5, 3])
        self.assertEqual(Farthest().order(RING, (4, 4, 4), (3, 0, 0), 0), [1, 2, 0])

    def test_far_is_from_the_letter_to_its_home(self):
        # 3 ties from 4 to 0, 4 from 0 to 4; 1 from 2 to 3, 2 from 3 to 2.
        self.assertEqual(Nearest().order(mixed_net(), (4, 0, 2, 3), (0, 4, 3, 2), 0), [3, 2, 1, 0])
        self.assertEqual(Farthest().order(mixed_net(), (4, 0, 2, 3), (0, 4, 3, 2), 0), [0, 1, 2, 3])

    def test_turns(self):
        self.assertEqual(Turns().order(RING, HOMES, STAND, 0), [0, 1, 3, 4, 5])
        self.assertEqual(Turns().order(RING, HOMES, STAND, 1), [5, 0, 1, 3, 4])
        self.assertEqual(Turns().order(RING, HOMES, STAND, 2), [4, 5, 0, 1, 3])
        self.assertEqual(Turns().order(RING, HOMES, STAND, 4), [3, 4, 5, 0, 1])
        self.assertEqual(Turns().order(RING, HOMES, STAND, 5), [1, 3, 4, 5, 0])

    def test_turns_beyond_how_many_letters_there_are(self):
        self.assertEqual(Turns().order(RING, HOMES, STAND, 6), [0, 1, 3, 4, 5])
        self.assertEqual(Turns().order(RING, HOMES, STAND, 6 * 10 ** 20 + 2), [4, 5, 0, 1, 3])
        self.assertEqual(Turns().order(RING, (3,), (0,), 7), [0])

    def test_ranked(self):
        self.assertEqual(Ranked((5, 4, 3, 2, 1, 0)).order(RING, HOMES, STAND, 0), [5, 4, 3, 1, 0])
        self.assertEqual(Ranked((1, 0, 0, 1, 0, -1)).order(RING, HOMES, STAND, 3), [5, 1, 4, 0, 3])
        self.assertEqual(Ranked((2,) * 6).order(RING, HOMES, STAND, 0), [0, 1, 3, 4, 5])
        self.assertEqual(Ranked((10 ** 59, -10 ** 59)).order(RING, (1, 1), (0, 2), 0), [1, 0])

    def test_no_letter_under_way(self):
        for rule in all_rules(2):
            self.assertEqual(rule.order(RING, (1, 1), (None, None), 3), [])
        for rule in all_rules(0):
            self.assertEqual(rule.order(RING, (), (), 3), [])

    def test_told_lists_are_new_and_alike(self):
        for rule in all_rules(6):
            for homes, stand in ((HOMES, STAND), ((1,) * 6, (None,) * 6)):
                ahead = rule.order(RING, homes, stand, 1)
                told = rule.order(RING, homes, stand, 1)
                self.assertIs(type(told), list)
                told.append("none")
                self.assertEqual(rule.order(RING, homes, stand, 1), ahead)
                self.assertIsNot(rule.order(RING, homes, stand, 1), ahead)


class Period(unittest.TestCase):

    def test_by_turns_how_many_letters_there_are(self):
        self.assertEqual(Turns().period(HOMES), 6)
        self.assertEqual(Turns().period((1,)), 1)
        self.assertEqual(Turns().period((1, 1)), 2)
        self.assertEqual(Turns().period(()), 1)

    def test_else_one(self):
        for rule in (Elder(), Nearest(), Farthest(), InTurn(), Ranked((1,) * 6)):
            self.assertEqual(rule.period(HOMES), 1)
            self.assertEqual(rule.period(()), 1)

    def test_behind_a_period_the_order_is_alike(self):
        for rule in all_rules(6):
            for beat in range(8):
                later = beat + rule.period(HOMES)
                self.assertEqual(rule.order(RING, HOMES, STAND, beat), rule.order(RING, HOMES, STAND, later))


class Ranks(unittest.TestCase):

    def test_no_tuple_of_whole_numbers(self):
        for ranks in odd_things() + [[1, 2], (True,), (1, False), (1, None), (1, "2"), (1, (2,)), ((1, 2),), 3, {1: 2}]:
            with self.assertRaises(NoRanks):
                Ranked(ranks)
        for thing in odd_things():
            if not (isinstance(thing, int) and not isinstance(thing, bool)):
                with self.assertRaises(NoRanks):
                    Ranked((1, thing))

    def test_not_as_many_ranks_as_homes(self):
        for many in (0, 1, 2, 4, 5):
            rule = Ranked((1,) * many)
            for stand in ((0, 0, None), (None, None, None)):
                with self.assertRaises(NoRanks):
                    rule.order(RING, (1, 2, 3), stand, 0)
        with self.assertRaises(NoRanks):
            Ranked((1,)).order(RING, (), (), 0)

    def test_no_ranks_of_no_letters(self):
        self.assertEqual(Ranked(()).order(RING, (), (), 0), [])

    def test_rules_of_one_kind_keep_their_own_ranks(self):
        first, second = Ranked((0, 1)), Ranked((1, 0))
        self.assertEqual(first.order(RING, (1, 1), (0, 2), 0), [0, 1])
        self.assertEqual(second.order(RING, (1, 1), (0, 2), 0), [1, 0])


if __name__ == "__main__":
    unittest.main()
