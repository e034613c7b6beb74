import unittest

from neverwait.errors import NoNet, NoShape, NoTie
from neverwait.nets import Net
from neverwait.shapes import box_net, pairs_net, ring_net, without, words_net
from tests.samples import (Hostile, all_places, all_sides, complete_net, mixed_net, odd_numbers, odd_things,
                           one_way_ring, wrong_sides)


def two_way(pairs):
    return sorted([(one, other) for one, other in pairs] + [(other, one) for one, other in pairs])


class Boxes(unittest.TestCase):

    def test_a_box_of_three_by_two(self):
        net = box_net((3, 2))
        self.assertEqual(net.many(), 6)
        self.assertEqual(net.ties(), two_way([(0, 1), (1, 2), (3, 4), (4, 5), (0, 3), (1, 4), (2, 5)]))

    def test_sides_at_the_edges(self):
        self.assertEqual(box_net((2,)).ties(), [(0, 1), (1, 0)])
        self.assertEqual(box_net((8,)).span(), 7)
        self.assertEqual(box_net((8, 4)).many(), 32)
        self.assertEqual(box_net((4, 8)).far(0, 31), 10)
        self.assertEqual(box_net((2, 2, 2, 2, 2)).span(), 5)

    def test_every_box_is_tied_by_its_places(self):
        for sides, houses in all_sides():
            net = box_net(sides)
            self.assertEqual(net.many(), houses)
            places = all_places(sides)
            ties = [(one, other) for one in range(houses) for other in range(houses)
                    if sum(abs(x - y) for x, y in zip(places[one], places[other])) == 1]
            self.assertEqual(net.ties(), ties)

    def test_just_beyond_and_other_kinds(self):
        for sides in wrong_sides():
            with self.assertRaises(NoShape):
                box_net(sides)


class Rings(unittest.TestCase):

    def test_each_is_tied_with_the_next_the_last_with_the_first(self):
        self.assertEqual(ring_net(3).ties(), two_way([(0, 1), (1, 2), (2, 0)]))
        self.assertEqual(ring_net(4).ties(), two_way([(0, 1), (1, 2), (2, 3), (3, 0)]))
        self.assertEqual(ring_net(32).many(), 32)
        self.assertEqual(ring_net(32).out(31), [0, 30])
        self.assertEqual(ring_net(32).span(), 16)

    def test_no_ring(self):
        for thing in odd_numbers() + [2, 1, 0, 33, 34, -3, "3", (3,)]:
            with self.assertRaises(NoShape):
                ring_net(thing)


class Words(unittest.TestCase):

    def test_words_of_two_figures_to_base_three(self):
        net = words_net(2, 3)
        self.assertEqual(net.many(), 9)
        self.assertEqual(net.out(0), [1, 2, 3, 6])
        self.assertEqual(net.out(4), [5, 7, 1, 3])

    def test_every_number_of_figures_and_base(self):
        for figures in range(-1, 8):
            for base in range(-1, 8):
                if 1 <= figures <= 5 and 2 <= base <= 5 and base ** figures <= 32:
                    self.check_words(figures, base)
                else:
                    with self.assertRaises(NoShape):
                        words_net(figures, base)

    def check_words(self, figures, base):
        net = words_net(figures, base)
        many = base ** figures
        words = [[house // base ** k % base for k in range(figures)] for house in range(many)]
        ties = [(one, other) for one in range(many) for other in range(many)
                if sum(x != y for x, y in zip(words[one], words[other])) == 1]
        self.assertEqual(net.many(), many)
        self.assertEqual(net.ties(), ties)
        self.assertEqual(net.span(), figures)

    def test_other_kinds(self):
        for thing in odd_numbers():
            for figures, base in ((thing, 2), (2, thing), (thing, thing)):
                with self.assertRaises(NoShape):
                    words_net(figures, base)


class Pairs(unittest.TestCase):

    def test_either_house_first(self):
        ties = two_way([(0, 1), (1, 2), (1, 3)])
        self.assertEqual(pairs_net(4, [(0, 1), (1, 2), (1, 3)]).ties(), ties)
        self.assertEqual(pairs_net(4, [(3, 1), (2, 1), (0, 1)]).ties(), ties)

    def test_no_pairs(self):
        for many, pairs in ((2, [(0, 1), (0, 1)]), (2, [(0, 1), (1, 0)]), (3, [(0, 1), (1, 2), (2, 1)]),
                            (2, [(0, 0), (0, 1)]), (2, [(0, 2)]), (2, [(0, -1)]), (2, [(0, True)]),
                            (2, [(False, 1)]), (2, [[0, 1]]), (2, ((0, 1),)), (2, [(0, 1, 1)]), (2, [(0,)]),
                            (2, {(0, 1)}), (2, []), (3, [(0, 1)]), (4, [(0, 1), (2, 3)]), (1, []), (1, [(0, 1)]),
                            (33, [(house, house + 1) for house in range(32)]),
                            (10, [(0, leaf) for leaf in range(1, 10)])):
            with self.assertRaises(NoNet):
                pairs_net(many, pairs)

    def test_other_kinds(self):
        good = [(0, 1), (1, 2)]
        for thing in odd_things():
            for many, pairs in ((thing, good), (3, thing), (3, good + [thing]), (3, good + [(0, thing)]),
                                (3, good + [(thing, 0)]), (3, [(thing, thing)]), (thing, thing)):
                with self.assertRaises(NoNet):
                    pairs_net(many, pairs)

    def test_the_list_handed_in_stays(self):
        pairs = [(1, 0), (2, 1)]
        net = pairs_net(3, pairs)
        self.assertEqual(pairs, [(1, 0), (2, 1)])
        pairs.append((0, 2))
        self.assertEqual(net.ties(), two_way([(0, 1), (1, 2)]))
        self.assertEqual(net.far(0, 2), 2)


class Without(unittest.TestCase):

    def test_both_ties_are_gone(self):
        ring = ring_net(4)
        path = two_way([(0, 1), (1, 2), (2, 3)])
        self.assertEqual(without(ring, 0, 3).ties(), path)
        self.assertEqual(without(ring, 3, 0).ties(), path)
        self.assertEqual(without(ring, 3, 0).far(3, 0), 3)
        self.assertEqual(ring.ties(), ring_net(4).ties())
        self.assertEqual(ring.far(3, 0), 1)
        self.assertIsNot(without(ring, 0, 3), without(ring, 0, 3))

    def test_one_way_ties_stay(self):
        net = Net(4, [(0, 1), (1, 2), (2, 3), (3, 0), (0, 2), (2, 0)])
        self.assertEqual(without(net, 2, 0).ties(), [(0, 1), (1, 2), (2, 3), (3, 0)])

    def test_what_is_left_is_no_net(self):
        for net, one, other in ((pairs_net(2, [(0, 1)]), 0, 1), (pairs_net(3, [(0, 1), (1, 2)]), 2, 1),
                                (mixed_net(), 0, 1), (mixed_net(), 4, 3)):
            with self.assertRaises(NoNet):
                without(net, one, other)

    def test_not_tied_both_ways(self):
        for net, one, other in ((ring_net(4), 0, 2), (ring_net(4), 1, 1), (one_way_ring(3), 0, 1),
                                (one_way_ring(3), 1, 0), (mixed_net(), 1, 2), (mixed_net(), 2, 1),
                                (mixed_net(), 0, 4), (ring_net(4), 0, 4), (ring_net(4), 4, 3), (ring_net(4), 0, -1)):
            with self.assertRaises(NoTie):
                without(net, one, other)

    def test_not_tied_goes_ahead_of_no_net(self):
        # Were these two untied, nothing would be left that is a net.
        net = pairs_net(2, [(0, 1)])
        for one, other in ((0, True), (False, 1), (1, 1), (0, 2)):
            with self.assertRaises(NoTie):
                without(net, one, other)

    def test_other_kinds(self):
        for net in (complete_net(3), pairs_net(2, [(0, 1)])):
            for thing in odd_numbers():
                for one, other in ((thing, 0), (0, thing), (1, thing), (thing, 1), (thing, thing)):
                    with self.assertRaises(NoTie):
                        without(net, one, other)
        with self.assertRaises(NoTie):
            without(complete_net(3), Hostile(), Hostile())


class ToldAlike(unittest.TestCase):

    def test_all_shapes_are_two_way_and_told_alike(self):
        for make in (lambda: box_net((2, 3)), lambda: ring_net(5), lambda: words_net(2, 3),
                     lambda: pairs_net(3, [(0, 1), (2, 1)]), lambda: without(ring_net(4), 0, 1)):
            self.assertIs(make().is_two_way(), True)
            self.assertIsNot(make(), make())
            self.assertEqual(make().ties(), make().ties())


if __name__ == "__main__":
    unittest.main()
