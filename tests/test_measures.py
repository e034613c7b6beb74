import copy
import unittest
from random import Random

from neverwait.boxes import Box
from neverwait.logs import home_at, stands_of
from neverwait.measures import elder_bound, measure, others
from neverwait.rules import Elder, InTurn, Nearest
from neverwait.runs import run
from neverwait.shapes import box_net, ring_net, words_net
from tests.samples import (all_homes, all_stands, let_in_log, mixed_net, one_way_ring, random_letters, sample_nets,
                           small_nets, stand_behind, waiting_log)

WORDS = [(figures, base) for figures in range(1, 6) for base in range(2, 6) if base ** figures <= 32]

# The letter 1 is let in behind the second handing, the letter 2 never; the letter 3 comes home by beat 1.
LATER_HOMES = (2, 2, 5, 4)
LATER = [(1, None, None, 3), (0, None, None, 4), (5, 1, None, None), (0, 2, None, None), (1, None, None, None),
         (2, None, None, None)]
LATER_STANDS = [(0, None, None, 2), (1, None, None, 3), (0, 0, None, None), (5, 1, None, None), (0, None, None, None),
                (1, None, None, None), (None, None, None, None)]


class Measure(unittest.TestCase):

    def test_no_letters_and_none_under_way(self):
        self.assertEqual(measure(ring_net(5), (), ()), 0)
        self.assertEqual(measure(ring_net(5), (1,), (None,)), 0)
        self.assertEqual(measure(ring_net(5), (1, 2, 3), (None, None, None)), 0)

    def test_one_letter(self):
        row = box_net((8,))
        for far in range(1, 8):
            self.assertEqual(measure(row, (0,), (far,)), far)
            self.assertEqual(measure(row, (5, 0, 1), (None, far, None)), far)

    def test_several_equally_far(self):
        row = box_net((8,))
        self.assertEqual(measure(row, (0, 0), (3, 3)), 5)
        self.assertEqual(measure(row, (0, 7), (3, 4)), 5)
        self.assertEqual(measure(row, (0, 7, 2), (3, 4, 5)), 7)
        self.assertEqual(measure(row, (0, 1, 2, 3), (1, 2, 3, 4)), 7)

    def test_the_greatest_at_the_farthest_one(self):
        row = box_net((8,))
        self.assertEqual(measure(row, (0, 0), (5, 1)), 5)
        self.assertEqual(measure(row, (0, 0), (1, 5)), 5)
        self.assertEqual(measure(row, (0, 0), (7, 4)), 7)
        self.assertEqual(measure(row, (0, 0, 0), (7, 4, 3)), 7)

    def test_a_greatest_that_is_not_at_the_farthest_one(self):
        row = box_net((8,))
        self.assertEqual(measure(row, (0, 0), (3, 2)), 4)
        self.assertEqual(measure(row, (0, 0, 7), (3, 2, 5)), 6)
        # 7, then 5 + 2, then 4 + 4, then 1 + 6.
        self.assertEqual(measure(row, (0, 0, 0, 0), (1, 5, 4, 7)), 8)
        self.assertEqual(measure(row, (0, 0, 0, 0), (1, 5, 2, 7)), 7)

    def test_far_is_from_where_it_stands(self):
        self.assertEqual(measure(one_way_ring(7), (0,), (6,)), 1)
        self.assertEqual(measure(one_way_ring(7), (6,), (0,)), 6)

    def test_by_the_words(self):
        chance = Random(40)
        for net in sample_nets() * 20:
            homes, stand = random_letters(net, chance.randrange(17), chance)
            found = [0]
            for least in range(1, 40):
                many = sum(house is not None and net.far(house, home) >= least for house, home in zip(stand, homes))
                if many:
                    found.append(least + 2 * (many - 1))
            self.assertEqual(measure(net, homes, stand), max(found))

    def test_on_words_by_nearest_first_it_falls_at_each_beat(self):
        chance = Random(41)
        beats = tight = 0
        for figures, base in WORDS * 10:
            net = words_net(figures, base)
            homes, stand = random_letters(net, 16, chance)
            log = run(Nearest(), net, homes, stand, 500)
            stands = stands_of(homes, stand, log)
            told = [measure(net, homes, here) for here in stands]
            for ahead, later in zip(told, told[1:]):
                self.assertLessEqual(later, ahead - 1)
                tight += later == ahead - 1
            self.assertEqual(told[-1], 0)
            self.assertLessEqual(len(log), told[0])
            beats += len(log)
        self.assertGreater(beats, 300)
        self.assertGreater(tight, 30)


class ElderBound(unittest.TestCase):

    def test_of_the_first_letter_under_way(self):
        self.assertEqual(elder_bound(ring_net(9), (3,), (0,), 0), 3)
        self.assertEqual(elder_bound(ring_net(9), (3, 5), (1, 0), 0), 2)

    def test_of_later_ones(self):
        self.assertEqual(elder_bound(ring_net(9), (3, 5), (1, 0), 1), 2 + 4)
        self.assertEqual(elder_bound(ring_net(9), (3, 5, 1), (1, 0, 2), 2), 2 + 8)
        self.assertEqual(elder_bound(box_net((8, 4)), (0,) * 5, (1, 2, 3, 4, 5), 4), 1 + 4 * 10)

    def test_letters_ahead_that_are_not_under_way(self):
        stand = (None, 1, None, 0, None, 4)
        homes = (3, 3, 3, 3, 3, 3)
        self.assertEqual([elder_bound(ring_net(9), homes, stand, letter) for letter in (1, 3, 5)], [2, 6, 10])

    def test_the_first_ones_own_distance_on_one_way_ties(self):
        self.assertEqual(elder_bound(one_way_ring(7), (6, 0), (0, 6), 0), 6)
        self.assertEqual(elder_bound(one_way_ring(7), (0, 6), (6, 0), 0), 1)
        self.assertEqual(elder_bound(one_way_ring(7), (0, 6), (6, 0), 1), 7)

    def test_each_is_home_within_it_by_elder_and_in_turn(self):
        chance = Random(42)
        later = 0
        for net in (sample_nets() + [ring_net(9), box_net((4, 4)), one_way_ring(12)]) * 6:
            for rule in (Elder(), InTurn()):
                homes, stand = random_letters(net, 12, chance)
                log = run(rule, net, homes, stand, 500)
                stands = stands_of(homes, stand, log)
                self.assertEqual(stands[-1], (None,) * 12)
                for beat in range(len(log)):
                    for letter in [one for one in range(12) if stands[beat][one] is not None]:
                        left = home_at(homes, stands, log, letter) - beat
                        self.assertLessEqual(left, elder_bound(net, homes, stands[beat], letter))
                        later += left > net.far(stands[beat][letter], homes[letter])
        self.assertGreater(later, 100)

    def test_one_letter_alone_needs_just_so_many(self):
        for net in small_nets():
            for homes in all_homes(net, 1):
                for stand in all_stands(net, homes):
                    if stand != (None,):
                        for rule in (Elder(), InTurn()):
                            self.assertEqual(len(run(rule, net, homes, stand, 99)), elder_bound(net, homes, stand, 0))

    def test_by_the_words(self):
        chance = Random(43)
        for net in sample_nets() * 6:
            homes, stand = random_letters(net, 9, chance)
            letters = [letter for letter in range(9) if stand[letter] is not None]
            for letter in letters:
                ahead = len([one for one in letters if one < letter])
                right = net.far(stand[letters[0]], homes[letters[0]]) + net.span() * ahead
                self.assertEqual(elder_bound(net, homes, stand, letter), right)


class NearestFirst(unittest.TestCase):

    def test_some_letter_is_home_within_as_many_beats_as_the_nearest_one_is_far(self):
        chance = Random(44)
        for net in (sample_nets() + [ring_net(9), one_way_ring(12), box_net((3, 3, 3))]) * 8:
            homes, stand = random_letters(net, 16, chance)
            stands = stands_of(homes, stand, run(Nearest(), net, homes, stand, 500))
            self.assertEqual(stands[-1], (None,) * 16)
            for beat, here in enumerate(stands[:-1]):
                nearest = min(net.far(house, home) for house, home in zip(here, homes) if house is not None)
                there = stands[min(beat + nearest, len(stands) - 1)]
                self.assertGreater(there.count(None), here.count(None))


class Others(unittest.TestCase):

    def tell(self, homes, stands, log):
        return [others(homes, stands, log, letter) for letter in range(len(homes))]

    def test_first_under_way_at_beat_0(self):
        log = [(1, 5), (2, 0), (None, 1), (None, 2)]
        stands = [(0, 0), (1, 5), (None, 0), (None, 1), (None, None)]
        self.assertEqual(self.tell((2, 2), stands, log), [1, 1])
        # Only the letter 0 comes home in the log that is cut.
        self.assertEqual(self.tell((2, 2), stands[:4], log[:3]), [0, 1])
        self.assertEqual(self.tell((2, 2), stands[:2], log[:1]), [0, 0])

    def test_let_in_later_and_never(self):
        # The letter 3 is home ahead of the first beat of the letter 1.
        self.assertEqual(self.tell(LATER_HOMES, LATER_STANDS, LATER), [2, 1, 0, 2])

    def test_who_comes_home_in_the_first_beat_counts(self):
        # Along the houses 0, 1, 2: the letter 1 is let in ahead of beat 1, by which the letter 0 comes home.
        log = [(1, None), (2, 1), (None, 2)]
        stands = [(0, None), (1, 0), (None, 1), (None, None)]
        self.assertEqual(self.tell((2, 2), stands, log), [1, 1])
        # Let in one beat later, it does not find it any more.
        log = [(1, None), (2, None), (None, 1), (None, 2)]
        stands = [(0, None), (1, None), (None, 0), (None, 1), (None, None)]
        self.assertEqual(self.tell((2, 2), stands, log), [1, 0])

    def test_never_under_way(self):
        log, stands = [(1, None), (2, None)], [(0, None), (1, None), (None, None)]
        self.assertEqual(self.tell((2, 2), stands, log), [0, 0])
        self.assertEqual(others((2,), [(0,)], [], 0), 0)
        self.assertEqual(others((2, 2), [(0, 0)], [], 1), 0)

    def test_who_never_comes_home_does_not_count(self):
        log, stands = [(1, 5, None), (2, 0, None)], [(0, 0, None), (1, 5, None), (None, 0, None)]
        self.assertEqual(self.tell((2, 2, 0), stands, log), [0, 1, 0])

    def test_a_waiting_log(self):
        stands, log = waiting_log(Box((3,)), (2, 2, 2), (0, 0, 0))
        self.assertEqual(self.tell((2, 2, 2), stands, log), [2, 2, 2])
        self.assertEqual(self.tell((2, 2, 2), stands[:4], log[:3]), [1, 1, 2])

    def test_what_is_no_letter(self):
        for letter in (-1, -4, 4, 99):
            self.assertEqual(others(LATER_HOMES, LATER_STANDS, LATER, letter), 0)

    def test_by_the_words(self):
        chance = Random(45)
        unlike = set()
        for net in sample_nets() * 5:
            homes, starts = random_letters(net, 7, chance)
            stands, log = let_in_log(chance.choice([Elder(), Nearest()]), net, homes, starts, chance)
            cut = chance.randrange(len(log) + 1)
            log = log[:cut]
            # None is let in behind the last handing.
            stands = stands[:cut] + [stand_behind(homes, log[-1]) if log else (None,) * 7]
            for letter in range(7):
                self.assertEqual(others(homes, stands, log, letter), others_by_the_words(homes, stands, log, letter))
                unlike.add(others(homes, stands, log, letter))
        self.assertGreater(len(unlike), 5)

    def test_what_is_handed_in_stays(self):
        kept = copy.deepcopy((LATER_STANDS, LATER))
        for time in range(2):
            self.assertEqual(self.tell(LATER_HOMES, LATER_STANDS, LATER), [2, 1, 0, 2])
        self.assertEqual((LATER_STANDS, LATER), kept)


class WhatIsToldIsWhole(unittest.TestCase):

    def test_kinds(self):
        net = mixed_net()
        for told in (measure(net, (), ()), measure(net, (0,), (4,)), elder_bound(net, (0,), (4,), 0),
                     others((0,), [(4,)], [], 0), others(LATER_HOMES, LATER_STANDS, LATER, 0)):
            self.assertIs(type(told), int)

    def test_the_net_stays(self):
        for net in small_nets():
            ties = net.ties()
            homes, stand = random_letters(net, 4, Random(46))
            for time in range(2):
                measure(net, homes, stand)
                for letter in range(4):
                    if stand[letter] is not None:
                        elder_bound(net, homes, stand, letter)
            self.assertEqual(net.ties(), ties)


def others_by_the_words(homes, stands, log, letter):
    """Point 20: those that come home by a handing of the letter's first beat, or of a later one."""
    first = [beat for beat in range(len(log)) if stands[beat][letter] is not None][:1]
    arrived = [(other, beat) for beat, handing in enumerate(log) for other, goes in enumerate(handing)
               if stands[beat][other] is not None and goes == homes[other]]
    return len([other for other, beat in arrived if other != letter and first and beat >= first[0]])


if __name__ == "__main__":
    unittest.main()
