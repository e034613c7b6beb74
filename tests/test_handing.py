import unittest
from random import Random

from neverwait.eager import is_eager, led
from neverwait.errors import NoRanks
from neverwait.handing import hand
from neverwait.nettexts import net_text
from neverwait.rules import Elder, Farthest, InTurn, Nearest, Ranked, Turns
from neverwait.shapes import box_net, ring_net
from neverwait.stands import wrong
from tests.samples import (all_homes, all_rules, all_stands, complete_net, eager_rules, mixed_net, one_way_ring,
                           random_letters, sample_nets, small_nets)

BIG = 10 ** 59


class ByHand(unittest.TestCase):
    """Handings reckoned by hand from point 11."""

    def test_elder(self):
        ring = ring_net(6)
        self.assertEqual(hand(Elder(), ring, (2, 2), (0, 0), 0), (1, 5))
        self.assertEqual(hand(Elder(), ring, (3, 1), (0, 0), 0), (1, 5))
        self.assertEqual(hand(Elder(), ring, (4, 2), (0, 0), 1), (5, 1))

    def test_nearest(self):
        ring = ring_net(6)
        # The letter 1 is one tie from home and takes the tie that is the first good one of the letter 0.
        self.assertEqual(hand(Nearest(), ring, (3, 1), (0, 0), 0), (5, 1))
        self.assertEqual(hand(Nearest(), ring, (2, 2), (0, 0), 1), (1, 5))
        self.assertEqual(hand(Nearest(), ring, (2, 1), (0, 0), 0), (5, 1))

    def test_farthest(self):
        ring = ring_net(6)
        self.assertEqual(hand(Farthest(), ring, (1, 3), (0, 0), 0), (5, 1))
        self.assertEqual(hand(Farthest(), ring, (1, 2), (0, 0), 0), (5, 1))
        self.assertEqual(hand(Farthest(), ring, (2, 2), (0, 0), 0), (1, 5))

    def test_turns_at_several_beats(self):
        net = complete_net(4)
        self.assertEqual(net.out(0), [1, 2, 3])
        self.assertEqual([hand(Turns(), net, (2, 2, 2), (0, 0, 0), beat) for beat in range(7)],
                         [(2, 1, 3), (1, 3, 2), (3, 2, 1), (2, 1, 3), (1, 3, 2), (3, 2, 1), (2, 1, 3)])
        self.assertEqual(hand(Turns(), ring_net(6), (2, 2), (0, 0), BIG + 1), (5, 1))

    def test_turns_count_letters_that_are_not_under_way(self):
        ring = ring_net(6)
        self.assertEqual([hand(Turns(), ring, (2, 5, 2), (0, None, 0), beat) for beat in range(4)],
                         [(1, None, 5), (5, None, 1), (5, None, 1), (1, None, 5)])

    def test_ranked(self):
        ring = ring_net(6)
        self.assertEqual(hand(Ranked((0, 1)), ring, (2, 2), (0, 0), 0), (1, 5))
        self.assertEqual(hand(Ranked((1, 0)), ring, (2, 2), (0, 0), 0), (5, 1))
        self.assertEqual(hand(Ranked((7, 7)), ring, (2, 2), (0, 0), 0), (1, 5))
        self.assertEqual(hand(Ranked((0, -1)), ring, (2, 2), (0, 0), 0), (5, 1))
        self.assertEqual(hand(Ranked((-2, -1)), ring, (2, 2), (0, 0), 0), (1, 5))
        self.assertEqual(hand(Ranked((BIG + 1, BIG)), ring, (2, 2), (0, 0), 0), (5, 1))
        self.assertEqual(hand(Ranked((-BIG, -BIG - 1)), ring, (2, 2), (0, 0), 0), (5, 1))

    def test_in_turn_takes_ahead_of_those_behind(self):
        net = complete_net(4)
        # Eagerly the letter 1, whose tie is taken, leaves the letter 2 its own.
        self.assertEqual(hand(Elder(), net, (1, 1, 2), (0, 0, 0), 0), (1, 3, 2))
        self.assertEqual(hand(InTurn(), net, (1, 1, 2), (0, 0, 0), 0), (1, 2, 3))
        self.assertEqual(hand(InTurn(), ring_net(6), (2, 2), (0, 0), 1), (1, 5))
        self.assertEqual(hand(InTurn(), ring_net(6), (4, 2), (0, 0), 0), (5, 1))

    def test_going_round(self):
        ring = ring_net(6)
        self.assertEqual(hand(Elder(), ring, (1,), (4,), 0), (5,))
        self.assertEqual(hand(Elder(), ring, (2,), (5,), 0), (0,))
        box = box_net((3, 3))
        self.assertEqual(box.out(4), [5, 7, 1, 3])
        self.assertEqual(hand(Elder(), box, (0,), (4,), 0), (1,))
        self.assertEqual(hand(Elder(), box, (5, 5, 5, 5), (4, 4, 4, 4), 0), (5, 7, 1, 3))
        self.assertEqual(hand(InTurn(), box, (0, 0, 0, 0), (4, 4, 4, 4), 0), (1, 3, 5, 7))

    def test_those_that_are_left_take_ties_in_the_order(self):
        box = box_net((3, 3))
        self.assertEqual(hand(Ranked((3, 2, 1, 0)), box, (5, 5, 5, 5), (4, 4, 4, 4), 0), (3, 1, 7, 5))
        self.assertEqual(hand(Farthest(), box, (5, 2, 5), (4, 4, 4), 0), (7, 5, 1))

    def test_one_way_ties(self):
        self.assertEqual(hand(Elder(), one_way_ring(4), (0, 0, 0), (1, 2, 3), 0), (2, 3, 0))
        self.assertEqual(mixed_net().out(3), [4, 1])
        self.assertEqual(mixed_net().out(1), [2, 0])
        self.assertEqual(hand(Elder(), mixed_net(), (4, 4, 0, 0), (3, 3, 1, 1), 0), (4, 1, 0, 2))
        self.assertEqual(hand(Nearest(), mixed_net(), (2, 1), (3, 3), 0), (4, 1))
        self.assertEqual(hand(Farthest(), mixed_net(), (2, 1), (3, 3), 0), (1, 4))
        self.assertEqual(hand(InTurn(), mixed_net(), (2, 1), (3, 3), 0), (1, 4))

    def test_letters_of_unlike_houses_do_not_hinder_each_other(self):
        for rule in all_rules(2):
            self.assertEqual(hand(rule, ring_net(6), (1, 1), (0, 2), 0), (1, 1))
            self.assertEqual(hand(rule, ring_net(6), (1, 0), (0, 1), 0), (1, 0))

    def test_not_under_way(self):
        for rule in all_rules(3):
            self.assertEqual(hand(rule, ring_net(6), (1, 1, 2), (None, 0, None), 0), (None, 1, None))
            self.assertEqual(hand(rule, ring_net(6), (1, 1, 2), (None, None, None), 2), (None, None, None))

    def test_no_letters(self):
        for rule in all_rules(0):
            self.assertEqual(hand(rule, ring_net(6), (), (), 0), ())


class Ranks(unittest.TestCase):

    def test_not_as_many_as_homes(self):
        for many in (0, 1, 3, 4):
            for stand in ((0, 0), (0, None), (None, None)):
                with self.assertRaises(NoRanks):
                    hand(Ranked((1,) * many), ring_net(6), (2, 2), stand, 0)

    def test_no_letters(self):
        self.assertEqual(hand(Ranked(()), ring_net(6), (), (), 0), ())
        for many in (1, 2):
            with self.assertRaises(NoRanks):
                hand(Ranked((1,) * many), ring_net(6), (), (), 0)


class Promises(unittest.TestCase):

    def check(self, net, homes, stand, beat):
        letters = [letter for letter, house in enumerate(stand) if house is not None]
        for rule in all_rules(len(homes)):
            handing = hand(rule, net, homes, stand, beat)
            self.assertIs(type(handing), tuple)
            self.assertIsNone(wrong(net, homes, stand, handing))
            self.assertEqual(handing, by_the_words(rule, net, homes, stand, beat))
            if letters:
                self.assertNotIn(rule.order(net, homes, stand, beat)[0], led(net, homes, stand, handing))
        for rule in eager_rules(len(homes)):
            self.assertIs(is_eager(net, homes, stand, hand(rule, net, homes, stand, beat)), True)
        whole = hand(InTurn(), net, homes, stand, beat)
        for many in range(len(homes)):
            self.assertEqual(hand(InTurn(), net, homes[:many], stand[:many], beat), whole[:many])

    def test_all_stands_of_small_nets(self):
        for net in small_nets():
            for homes in all_homes(net, 2):
                for stand in all_stands(net, homes):
                    self.check(net, homes, stand, 0)
                    self.check(net, homes, stand, 1)

    def test_many_letters_on_many_nets(self):
        chance = Random(11)
        for net in sample_nets() * 6:
            homes, stand = random_letters(net, chance.randrange(17), chance)
            self.check(net, homes, stand, chance.randrange(40))

    def test_as_many_letters_at_a_house_as_ties_lead_out(self):
        chance = Random(12)
        for net in sample_nets():
            for house in range(net.many()):
                many = len(net.out(house))
                homes = tuple(chance.choice([home for home in range(net.many()) if home != house])
                              for at in range(many))
                self.check(net, homes, (house,) * many, chance.randrange(9))
                for rule in all_rules(many):
                    self.assertEqual(sorted(hand(rule, net, homes, (house,) * many, 3)), sorted(net.out(house)))

    def test_in_turn_is_not_always_eager(self):
        net = complete_net(4)
        self.assertIs(is_eager(net, (1, 1, 2), (0, 0, 0), hand(InTurn(), net, (1, 1, 2), (0, 0, 0), 0)), False)

    def test_told_alike_and_the_net_stays(self):
        net = mixed_net()
        text = net_text(net)
        for rule in all_rules(4):
            first = hand(rule, net, (4, 4, 0, 0), (3, 3, 1, 1), 1)
            self.assertEqual(hand(rule, net, (4, 4, 0, 0), (3, 3, 1, 1), 1), first)
        self.assertEqual(net_text(net), text)


def by_the_words(rule, net, homes, stand, beat):
    """Point 11, by a list of the ties that are free."""
    keys = {Elder: lambda i: i,
            InTurn: lambda i: i,
            Nearest: lambda i: (net.far(stand[i], homes[i]), i),
            Farthest: lambda i: (-net.far(stand[i], homes[i]), i),
            Turns: lambda i: (i + beat) % len(homes),
            Ranked: lambda i: (rule.ranks[i], i)}
    order = sorted([i for i in range(len(homes)) if stand[i] is not None], key=keys[type(rule)])
    free = set(net.ties())
    goes = {}

    def take(i, others):
        others = sorted(others, key=lambda other: (other - stand[i]) % net.many())
        for other in others:
            if i not in goes and (stand[i], other) in free:
                free.remove((stand[i], other))
                goes[i] = other

    def nearer(i):
        return [other for one, other in net.ties()
                if one == stand[i] and net.far(other, homes[i]) < net.far(one, homes[i])]

    def any_at_all(i):
        return [other for one, other in net.ties() if one == stand[i]]

    for i in order:
        take(i, nearer(i))
        if isinstance(rule, InTurn):
            take(i, any_at_all(i))
    for i in order:
        take(i, any_at_all(i))
    return tuple(goes.get(i) for i in range(len(homes)))


if __name__ == "__main__":
    unittest.main()
