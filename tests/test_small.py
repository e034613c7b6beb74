import unittest
from random import Random

from neverwait.errors import TooMany
from neverwait.nets import Net
from neverwait.rules import Elder, InTurn, Nearest
from neverwait.runs import run
from neverwait.shapes import box_net, pairs_net, ring_net
from neverwait.small import least, worst
from neverwait.stands import behind, wrong
from tests.samples import (all_homes, all_stands, complete_net, handings_of, mixed_net, one_way_ring, random_letters,
                           small_nets, stand_behind)

PAIR = pairs_net(2, [(0, 1)])
ROW = box_net((3,))


class Least(unittest.TestCase):

    def check(self, net, homes, stand):
        """The handings are right ones, as many as told, all come home by them, and by no fewer."""
        told = least(net, homes, stand)
        self.assertIs(type(told), tuple)
        beats, log = told
        self.assertEqual((type(beats), type(log)), (int, list))
        self.assertEqual(beats, len(log))
        here = stand
        for handing in log:
            self.assertIsNone(wrong(net, homes, here, handing))
            self.assertTrue(any(house is not None for house in here))
            here = behind(net, homes, here, handing)
        nothing = (None,) * len(homes)
        self.assertEqual(here, nothing)
        reached = {stand}
        for beat in range(beats):
            self.assertNotIn(nothing, reached)
            reached = {stand_behind(homes, handing) for here in reached for handing in handings_of(net, here)}
        self.assertIn(nothing, reached)
        return beats

    def test_none_under_way_and_no_letters(self):
        self.assertEqual(least(ROW, (), ()), (0, []))
        self.assertEqual(least(ROW, (1,), (None,)), (0, []))
        self.assertEqual(least(ROW, (1, 2, 0), (None, None, None)), (0, []))

    def test_one_letter(self):
        for net in small_nets():
            for homes in all_homes(net, 1):
                for stand in all_stands(net, homes):
                    beats = self.check(net, homes, stand)
                    self.assertEqual(beats, 0 if stand[0] is None else net.far(stand[0], homes[0]))

    def test_by_hand(self):
        self.assertEqual(least(ROW, (2,), (0,)), (2, [(1,), (2,)]))
        # The one that is led about by 0 needs two beats more.
        self.assertEqual(self.check(ROW, (2, 2), (1, 1)), 3)
        self.assertEqual(self.check(ROW, (0, 2), (1, 1)), 1)
        self.assertEqual(self.check(PAIR, (1, 0), (0, 1)), 1)
        self.assertEqual(self.check(ring_net(5), (2, 2), (0, 0)), 3)

    def test_better_than_each_rule(self):
        # By nearest, elder and in turn the letter 0 takes the tie to 1; but along 3 it would not be in the way.
        square = ring_net(4)
        homes, stand = (2, 1), (0, 0)
        self.assertEqual([len(run(rule, square, homes, stand, 99)) for rule in (Elder(), InTurn())], [3, 3])
        self.assertEqual(least(square, homes, stand), (2, [(3, 1), (2, None)]))

    def test_some_not_under_way(self):
        self.assertEqual(least(ROW, (2, 0), (0, None)), (2, [(1, None), (2, None)]))
        self.assertEqual(least(ROW, (0, 2, 1), (None, 0, None)), (2, [(None, 1, None), (None, 2, None)]))

    def test_two_letters_on_all_small_nets(self):
        for net in small_nets():
            if net.many() <= 4:
                for homes in all_homes(net, 2):
                    for stand in all_stands(net, homes):
                        self.check(net, homes, stand)

    def test_three_letters(self):
        chance = Random(90)
        for net in small_nets():
            self.assertLessEqual(net.many(), 5)
            for time in range(40):
                homes, stand = random_letters(net, 3, chance)
                beats = self.check(net, homes, stand)
                for rule in (Elder(), Nearest(), InTurn()):
                    self.assertLessEqual(beats, len(run(rule, net, homes, stand, 99)))

    def test_too_many(self):
        for net, homes, stand in ((ring_net(6), (1,), (0,)), (ring_net(6), (), ()), (ring_net(6), (1,), (None,)),
                                  (box_net((8, 4)), (1, 2), (0, 0)), (ROW, (0, 0, 2, 2), (1, 1, 0, 0)),
                                  (ROW, (0,) * 4, (None,) * 4), (PAIR, (0,) * 4, (1, None, None, None)),
                                  (ring_net(6), (0,) * 4, (None,) * 4), (ROW, (0,) * 16, (None,) * 16)):
            with self.assertRaises(TooMany):
                least(net, homes, stand)

    def test_just_as_many_as_allowed(self):
        self.assertEqual(self.check(complete_net(5), (4, 4, 4), (0, 0, 0)), 2)
        self.assertEqual(self.check(one_way_ring(5), (4, 0, 1), (0, 1, 2)), 4)
        self.assertEqual(self.check(mixed_net(), (0, 0, 4), (4, 3, 0)), least(mixed_net(), (0, 0, 4), (4, 3, 0))[0])

    def test_new_with_each_call(self):
        for homes, stand in (((2, 2), (1, 1)), ((2, 2), (None, None)), ((), ())):
            first = least(ROW, homes, stand)
            kept = (first[0], list(first[1]))
            told = least(ROW, homes, stand)
            self.assertEqual(told, first)
            self.assertIsNot(told[1], first[1])
            told[1].append("none")
            self.assertEqual(least(ROW, homes, stand), kept)


class Worst(unittest.TestCase):

    def rules(self):
        return [Elder(), Nearest(), InTurn()]

    def test_by_hand(self):
        for rule in self.rules():
            self.assertEqual(worst(rule, PAIR, 1), (1, (0,), (1,)))
            self.assertEqual(worst(rule, PAIR, 2), (1, (0, 1), (1, 0)))
            self.assertEqual(worst(rule, ROW, 1), (2, (0,), (2,)))
            self.assertEqual(worst(rule, one_way_ring(4), 1), (3, (0,), (1,)))
            self.assertEqual(worst(rule, ring_net(5), 1), (2, (0,), (2,)))
            # Both are at one house and go to one end; the one led about needs two beats more.
            self.assertEqual(worst(rule, ROW, 2), (3, (0, 0), (1, 1)))
            self.assertEqual(worst(rule, box_net((5,)), 2), (5, (0, 0), (3, 3)))

    def test_held_against_all_starts(self):
        nets = [(net, letters) for net in small_nets() for letters in (1, 2)]
        nets += [(net, 3) for net in small_nets() if net.many() <= 3]
        self.assertGreater(len(nets), 15)
        for net, letters in nets:
            for rule in self.rules():
                told = worst(rule, net, letters)
                self.assertEqual(told, worst_by_the_words(rule, net, letters))
                if told is not None:
                    self.assertEqual([type(part) for part in (told, *told)], [tuple, int, tuple, tuple])

    def test_twice_the_span(self):
        # Both go from 2 to 0: the letter 1 is led about by 4, meets the other one at 1 and begins anew at 2.
        net = Net(5, [(0, 2), (1, 0), (1, 2), (2, 3), (2, 4), (3, 1), (3, 4), (4, 1), (4, 3)])
        self.assertEqual(net.span(), 3)
        for rule in self.rules():
            self.assertEqual(worst(rule, net, 2), (6, (0, 0), (2, 2)))

    def test_the_first_homes_and_of_these_the_first_stand(self):
        for rule in self.rules():
            beats, homes, stand = worst(rule, ROW, 2)
            self.assertEqual(beats, max(len(run(rule, ROW, *start, 99)) for start in all_starts(ROW, 2)))
            for other in all_starts(ROW, 2):
                if other < (homes, stand):
                    self.assertLess(len(run(rule, ROW, *other, 99)), beats)

    def test_no_start_has_room_for_all(self):
        for rule in self.rules():
            self.assertIsNone(worst(rule, PAIR, 3))
            self.assertIsNotNone(worst(rule, one_way_ring(3), 3))

    def test_too_many(self):
        for rule in self.rules():
            for net, letters in ((ring_net(6), 1), (ring_net(6), 2), (one_way_ring(7), 1), (box_net((8, 4)), 16),
                                 (ring_net(5), 3), (ring_net(4), 3), (mixed_net(), 3), (one_way_ring(4), 3),
                                 (ring_net(3), 4), (ROW, 4), (PAIR, 4), (PAIR, 16), (ring_net(3), 10 ** 59)):
                with self.assertRaises(TooMany):
                    worst(rule, net, letters)

    def test_just_as_many_as_allowed(self):
        for rule in self.rules():
            for net, letters in ((ring_net(5), 2), (complete_net(5), 2), (ring_net(4), 2), (ring_net(3), 3), (ROW, 3)):
                self.assertEqual(worst(rule, net, letters), worst_by_the_words(rule, net, letters))

    def test_told_alike(self):
        for rule in self.rules():
            self.assertEqual(worst(rule, ROW, 2), worst(rule, ROW, 2))


def all_starts(net, letters):
    """All homes and stands with all of so many letters under way, sorted."""
    return sorted((homes, stand) for homes in all_homes(net, letters) for stand in all_stands(net, homes)
                  if None not in stand)


def worst_by_the_words(rule, net, letters):
    """Point 24."""
    needed = [(len(run(rule, net, homes, stand, 500)), homes, stand) for homes, stand in all_starts(net, letters)]
    if not needed:
        return None
    most = max(row[0] for row in needed)
    return min(row for row in needed if row[0] == most)


if __name__ == "__main__":
    unittest.main()
