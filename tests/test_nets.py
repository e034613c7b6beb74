import unittest

from neverwait.errors import NoHouse, NoNet
from neverwait.nets import Net, is_plain_ring, is_tree
from neverwait.shapes import box_net, pairs_net, ring_net, words_net
from tests.samples import (Hostile, complete_net, mixed_net, odd_numbers, odd_things, one_way_ring, sample_nets)

RING = [(0, 1), (1, 2), (2, 0)]


def path_ties(many):
    there = [(house, house + 1) for house in range(many - 1)]
    return there + [(other, one) for one, other in there]


def star_ties(leaves):
    return [tie for leaf in range(1, leaves + 1) for tie in ((0, leaf), (leaf, 0))]


class WhatIsANet(unittest.TestCase):

    def refused(self, many, ties):
        with self.assertRaises(NoNet):
            Net(many, ties)

    def test_how_many_houses(self):
        self.assertEqual(Net(2, path_ties(2)).many(), 2)
        self.assertEqual(Net(32, path_ties(32)).many(), 32)
        self.refused(33, path_ties(33))
        self.refused(1, [])
        self.refused(0, [])
        self.refused(-2, [])
        self.refused(10 ** 59, RING)

    def test_many_of_other_kinds(self):
        for thing in odd_numbers():
            self.refused(thing, RING)
            self.refused(thing, [])

    def test_eight_ties_out_and_nine(self):
        self.assertEqual(Net(9, star_ties(8)).out(0), [1, 2, 3, 4, 5, 6, 7, 8])
        self.refused(10, star_ties(9))
        self.assertEqual(len(complete_net(9).ties()), 72)
        with self.assertRaises(NoNet):
            complete_net(10)

    def test_a_tie_twice(self):
        self.refused(3, RING + [(0, 1)])
        self.refused(3, RING + RING)
        self.refused(2, [(0, 1), (1, 0), (0, 1), (1, 0)])

    def test_a_tie_of_a_house_with_itself(self):
        self.refused(3, RING + [(1, 1)])
        self.refused(3, [(0, 0), (1, 1), (2, 2)])

    def test_a_house_that_is_none(self):
        self.refused(3, RING + [(0, 3), (3, 0)])
        self.refused(3, RING + [(0, -1), (-1, 0)])
        self.refused(2, RING)

    def test_true_and_false_are_no_houses(self):
        self.refused(2, [(0, True), (True, 0)])
        self.refused(2, [(False, 1), (1, False)])
        self.refused(2, [(0, True), (1, 0)])

    def test_a_tie_as_a_list_or_with_one_thing_more_or_less(self):
        self.refused(3, [[0, 1], (1, 2), (2, 0)])
        self.refused(3, [(0, 1), (1, 2), (2, 0, 1)])
        self.refused(3, [(0, 1), (1, 2), (2,)])
        self.refused(3, RING + [()])

    def test_ties_that_are_no_list(self):
        self.refused(3, tuple(RING))
        self.refused(3, dict.fromkeys(RING))
        self.refused(3, set(RING))
        self.refused(3, iter(RING))

    def test_ties_of_other_kinds(self):
        for thing in odd_things():
            self.refused(3, thing)
            self.refused(3, RING + [thing])
            self.refused(3, [thing] + RING)
            self.refused(3, RING + [(0, thing)])
            self.refused(3, RING + [(thing, 0)])
            self.refused(3, RING + [(thing, thing)])
        self.refused(3, RING + [([0], {})])
        self.refused(Hostile(), Hostile())

    def test_not_as_many_ties_out_as_in(self):
        self.refused(3, RING + [(0, 2)])
        self.refused(3, [(0, 1), (1, 2)])
        self.refused(4, [(0, 1), (1, 2), (2, 3), (3, 0), (0, 2), (2, 1)])

    def test_a_house_that_one_cannot_come_to(self):
        self.refused(3, [(0, 1), (1, 0)])
        self.refused(4, [(0, 1), (1, 0), (2, 3), (3, 2)])
        self.refused(6, RING + [(3, 4), (4, 5), (5, 3)])
        self.refused(2, [])


class WhatANetTells(unittest.TestCase):

    def test_ties_are_sorted_whatever_order_they_came_in(self):
        ties = [(2, 0), (1, 2), (0, 1)]
        self.assertEqual(Net(3, ties).ties(), [(0, 1), (1, 2), (2, 0)])
        self.assertEqual(Net(3, ties[::-1]).ties(), [(0, 1), (1, 2), (2, 0)])
        self.assertEqual(mixed_net().ties(), [(0, 1), (1, 0), (1, 2), (2, 3), (3, 1), (3, 4), (4, 3)])

    def test_out_goes_round(self):
        star = Net(5, [(2, 0), (2, 1), (2, 3), (2, 4), (0, 2), (1, 2), (3, 2), (4, 2)])
        self.assertEqual(star.out(2), [3, 4, 0, 1])
        self.assertEqual(star.out(4), [2])
        self.assertEqual(complete_net(4).out(0), [1, 2, 3])
        self.assertEqual(complete_net(4).out(1), [2, 3, 0])
        self.assertEqual(complete_net(4).out(3), [0, 1, 2])
        self.assertEqual([mixed_net().out(house) for house in range(5)], [[1], [2, 0], [3], [4, 1], [3]])
        for net in sample_nets():
            for house in range(net.many()):
                turns = [(other - house) % net.many() for other in net.out(house)]
                self.assertEqual(turns, sorted(turns))
                self.assertEqual(sorted(net.out(house)), [other for one, other in net.ties() if one == house])

    def test_far_on_one_way_ties(self):
        net = one_way_ring(5)
        self.assertEqual([net.far(1, other) for other in range(5)], [4, 0, 1, 2, 3])
        self.assertEqual(net.span(), 4)
        net = mixed_net()
        self.assertEqual([net.far(0, other) for other in range(5)], [0, 1, 2, 3, 4])
        self.assertEqual([net.far(4, other) for other in range(5)], [3, 2, 3, 1, 0])
        self.assertEqual(net.span(), 4)

    def test_far_on_two_way_ties(self):
        net = ring_net(6)
        self.assertEqual([net.far(2, other) for other in range(6)], [2, 1, 0, 1, 2, 3])
        self.assertEqual(net.span(), 3)
        self.assertEqual(Net(32, path_ties(32)).far(31, 0), 31)
        self.assertEqual(Net(32, path_ties(32)).span(), 31)
        self.assertEqual(complete_net(9).span(), 1)

    def test_far_is_the_fewest_ties(self):
        for net in sample_nets():
            fewest = fewest_ties(net.many(), net.ties())
            for one in range(net.many()):
                for other in range(net.many()):
                    self.assertEqual(net.far(one, other), fewest[one][other])
            self.assertEqual(net.span(), max(max(row) for row in fewest))

    def test_good(self):
        ring = ring_net(6)
        self.assertEqual(ring.good(0, 3), [1, 5])
        self.assertEqual(ring.good(4, 1), [5, 3])
        self.assertEqual(ring.good(0, 4), [5])
        self.assertEqual(ring.good(2, 2), [])
        self.assertEqual(mixed_net().good(3, 0), [1])
        self.assertEqual(mixed_net().good(1, 4), [2])
        self.assertEqual(ring_net(5).good(0, 2), [1])
        self.assertEqual(complete_net(4).good(1, 0), [0])

    def test_good_are_the_ties_that_lead_nearer_going_round(self):
        for net in sample_nets():
            for house in range(net.many()):
                for home in range(net.many()):
                    nearer = [other for other in net.out(house) if net.far(other, home) < net.far(house, home)]
                    self.assertEqual(net.good(house, home), nearer)
                    self.assertEqual(nearer == [], house == home)

    def test_is_two_way(self):
        self.assertIs(ring_net(5).is_two_way(), True)
        self.assertIs(complete_net(4).is_two_way(), True)
        self.assertIs(Net(2, [(0, 1), (1, 0)]).is_two_way(), True)
        self.assertIs(one_way_ring(3).is_two_way(), False)
        self.assertIs(mixed_net().is_two_way(), False)

    def test_what_is_no_house(self):
        for net in (one_way_ring(3), complete_net(4)):
            for thing in odd_numbers() + [net.many(), net.many() + 1]:
                for ask in (lambda: net.out(thing), lambda: net.far(thing, 0), lambda: net.far(0, thing),
                            lambda: net.far(thing, thing), lambda: net.good(thing, 0), lambda: net.good(0, thing),
                            lambda: net.good(thing, thing)):
                    with self.assertRaises(NoHouse):
                        ask()


class WhatStays(unittest.TestCase):

    def test_the_list_handed_in_is_its_owners(self):
        ties = [(2, 0), (1, 2), (0, 1)]
        net = Net(3, ties)
        self.assertEqual(ties, [(2, 0), (1, 2), (0, 1)])
        ahead = all_told(net)
        ties.clear()
        ties.append("none")
        self.assertEqual(all_told(net), ahead)

    def test_told_lists_are_their_askers(self):
        for net in (mixed_net(), ring_net(4)):
            ahead = all_told(net)
            for told in (net.ties(), net.out(0), net.good(0, 2)):
                told.reverse()
                told.append("none")
                self.assertEqual(all_told(net), ahead)
            self.assertIsNot(net.ties(), net.ties())
            self.assertIsNot(net.out(0), net.out(0))
            self.assertIsNot(net.good(0, 2), net.good(0, 2))
            self.assertIsNot(net.good(1, 1), net.good(1, 1))

    def test_lists_and_tuples_are_told_as_such(self):
        net = mixed_net()
        for told in (net.ties(), net.out(0), net.good(0, 2)):
            self.assertIs(type(told), list)
        self.assertEqual({type(tie) for tie in net.ties()}, {tuple})


class KindsOfNets(unittest.TestCase):

    def test_trees(self):
        for net in (Net(2, path_ties(2)), Net(32, path_ties(32)), Net(9, star_ties(8)),
                    pairs_net(5, [(0, 1), (2, 1), (1, 3), (4, 3)]), box_net((4,))):
            self.assertIs(is_tree(net), True)

    def test_no_trees(self):
        one_way_like_a_tree = Net(4, [(0, 1), (1, 2), (2, 3), (3, 0), (0, 2), (2, 0)])
        self.assertEqual(len(one_way_like_a_tree.ties()), 6)
        for net in (ring_net(3), ring_net(4), complete_net(4), one_way_ring(3), one_way_like_a_tree, mixed_net()):
            self.assertIs(is_tree(net), False)

    def test_plain_rings(self):
        for net in (ring_net(3), ring_net(32), box_net((2, 2)), words_net(1, 3), words_net(2, 2),
                    pairs_net(5, [(0, 2), (2, 4), (4, 1), (1, 3), (3, 0)])):
            self.assertIs(is_plain_ring(net), True)

    def test_no_plain_rings(self):
        one_way_with_two_out = Net(5, [(house, (house + step) % 5) for house in range(5) for step in (1, 2)])
        self.assertEqual({len(one_way_with_two_out.out(house)) for house in range(5)}, {2})
        for net in (Net(2, path_ties(2)), Net(3, path_ties(3)), one_way_ring(3), one_way_with_two_out,
                    complete_net(4), pairs_net(4, [(0, 1), (1, 2), (2, 0), (2, 3)])):
            self.assertIs(is_plain_ring(net), False)


def fewest_ties(many, ties):
    """Reckoned another way: through more and more houses."""
    fewest = [[0 if one == other else many for other in range(many)] for one in range(many)]
    for one, other in ties:
        fewest[one][other] = 1
    for by in range(many):
        for one in range(many):
            for other in range(many):
                fewest[one][other] = min(fewest[one][other], fewest[one][by] + fewest[by][other])
    return fewest


def all_told(net):
    houses = range(net.many())
    return (net.many(), net.ties(), net.span(), net.is_two_way(), [net.out(house) for house in houses],
            [(net.far(one, other), net.good(one, other)) for one in houses for other in houses])


if __name__ == "__main__":
    unittest.main()
