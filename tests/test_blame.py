import copy
import unittest
from random import Random

from neverwait.blame import blame, lane_blame, wait_blame
from neverwait.boxes import Box
from neverwait.chains import is_chain, is_straight
from neverwait.errors import NoBerth
from neverwait.lanes import berth, is_berthed, lane_hand, reason
from neverwait.letting import let_in_lanes, let_in_run
from neverwait.logs import home_at, led_at, stands_of, waited_at
from neverwait.measures import others
from neverwait.nets import is_plain_ring, is_tree
from neverwait.rules import Elder, Nearest
from neverwait.runs import lane_run, run
from neverwait.shapes import box_net, ring_net
from tests.samples import (crowded_berth, crowded_letters, eager_rules, let_in_log, random_letters, random_plan,
                           random_tree, sample_nets, stand_behind, tree_log, waiting_log)

TREE, HOMES, STANDS, LOG = tree_log()

BOXES = ((2,), (8,), (3, 3), (4, 4), (8, 4), (2, 2, 2), (2, 3, 4), (3, 3, 3), (2, 2, 2, 2, 2))


class Blame(unittest.TestCase):

    def test_through_several_beats_and_letters(self):
        self.assertEqual(run(Elder(), TREE, HOMES, STANDS[0], 99), LOG)
        self.assertEqual(blame(TREE, HOMES, STANDS, LOG, 2, 0), [1, 0, 0])
        self.assertEqual(blame(TREE, HOMES, STANDS, LOG, 1, 1), [0, 0])
        self.assertEqual(blame(TREE, HOMES, STANDS, LOG, 2, 3), [1])

    def test_not_led_about(self):
        for letter, beat in ((0, 0), (0, 1), (0, 2), (1, 0), (1, 2), (1, 3), (2, 1), (2, 2), (2, 4), (2, 5)):
            self.assertIsNone(blame(TREE, HOMES, STANDS, LOG, letter, beat))

    def test_not_under_way(self):
        for letter, beat in ((0, 3), (0, 4), (0, 5), (1, 4), (1, 5)):
            self.assertIsNone(blame(TREE, HOMES, STANDS, LOG, letter, beat))

    def test_beats_below_0_and_behind_the_log(self):
        for letter in range(3):
            for beat in (-1, -2, -3, -5, -6, -7, 6, 7, 500):
                self.assertIsNone(blame(TREE, HOMES, STANDS, LOG, letter, beat))
        self.assertIsNone(blame(TREE, HOMES, STANDS[:1], [], 2, 0))

    def test_what_is_no_letter(self):
        for letter in (-1, -2, 3, 4):
            for beat in (0, 1, 3):
                self.assertIsNone(blame(TREE, HOMES, STANDS, LOG, letter, beat))

    def test_the_log_ends_ahead(self):
        for most in (1, 2):
            self.assertIsNone(blame(TREE, HOMES, STANDS[:most + 1], LOG[:most], 2, 0))
        self.assertEqual(blame(TREE, HOMES, STANDS[:4], LOG[:3], 2, 0), [1, 0, 0])
        self.assertIsNone(blame(TREE, HOMES, STANDS[:3], LOG[:2], 1, 1))
        self.assertEqual(blame(TREE, HOMES, STANDS[:5], LOG[:4], 2, 3), [1])

    def test_the_first_of_the_good_ties(self):
        # For the letter 2 the ties to 5 and 7 are good, and taken by the letters 0 and 1.
        net = box_net((3, 3))
        self.assertEqual(net.good(4, 8), [5, 7])
        log = run(Elder(), net, (5, 7, 8), (4, 4, 4), 99)
        self.assertEqual(log[0], (5, 7, 1))
        self.assertEqual(blame(net, (5, 7, 8), stands_of((5, 7, 8), (4, 4, 4), log), log, 2, 0), [0])
        log = run(Elder(), net, (7, 5, 8), (4, 4, 4), 99)
        self.assertEqual(blame(net, (7, 5, 8), stands_of((7, 5, 8), (4, 4, 4), log), log, 2, 0), [1])

    def test_it_ends_with_the_first_that_comes_home(self):
        # The letter 0 comes home to 2, where the letter 2 stands then and goes home from; that is a chain, too.
        net, homes, stand = box_net((5,)), (2, 4, 1), (1, 1, 3)
        log = run(Elder(), net, homes, stand, 99)
        self.assertEqual(log[:2], [(2, 0, 2), (None, 1, 1)])
        stands = stands_of(homes, stand, log)
        self.assertEqual(blame(net, homes, stands, log, 1, 0), [0])
        self.assertIs(is_chain(homes, stands, log, 1, 0, [0, 2]), True)

    def test_of_nobody(self):
        self.assertIsNone(blame(TREE, (), [(), ()], [()], 0, 0))


class ByWords(unittest.TestCase):
    """Point 19, told once more, of logs on many nets."""

    def check(self, net, homes, stands, log):
        found = 0
        for letter in range(len(homes)):
            about = led_at(net, homes, stands, log, letter)
            for beat in range(-1, len(log) + 1):
                chain = blame(net, homes, stands, log, letter, beat)
                if beat in about:
                    self.assertEqual(chain, blame_by_the_words(net, homes, stands, log, letter, beat))
                    self.assertTrue(chain is None or is_chain(homes, stands, log, letter, beat, chain))
                    found += chain is not None
                else:
                    self.assertIsNone(chain)
        return found

    def test_by_eager_rules(self):
        chance = Random(25)
        found = 0
        for net in sample_nets() * 4:
            for rule in eager_rules(14):
                homes, stand = random_letters(net, 14, chance)
                log = run(rule, net, homes, stand, chance.randrange(40))
                found += self.check(net, homes, stands_of(homes, stand, log), log)
        self.assertGreater(found, 500)

    def test_letters_let_in_one_behind_another(self):
        chance = Random(26)
        found = 0
        for net in sample_nets() * 4:
            for rule in (Elder(), Nearest()):
                homes, starts = random_letters(net, 14, chance)
                stands, log = let_in_log(rule, net, homes, starts, chance)
                found += self.check(net, homes, stands, log)
        self.assertGreater(found, 60)

    def test_nearest_first_no_more_letters_than_the_first_ones_home_was_far(self):
        chance = Random(27)
        found = 0
        for net in (sample_nets() + [ring_net(9), box_net((4, 4)), random_tree(12, chance)]) * 4:
            homes, stand = random_letters(net, 16, chance)
            log = run(Nearest(), net, homes, stand, 500)
            stands = stands_of(homes, stand, log)
            for letter in range(16):
                for beat in led_at(net, homes, stands, log, letter):
                    chain = blame(net, homes, stands, log, letter, beat)
                    self.assertIs(is_chain(homes, stands, log, letter, beat, chain), True)
                    self.assertLessEqual(len(chain), net.far(stands[beat][chain[0]], homes[chain[0]]))
                    found += 1
        self.assertGreater(found, 150)


class StraightChains(unittest.TestCase):
    """What point 3 tells of trees, plain rings, boxes by lanes, boxes where letters may wait."""

    def check(self, net, homes, stands, log, letter, beats, tell, each=2):
        """At each of the beats there is a straight chain; their last letters are unlike, none is the letter itself.

        So it is home within its distance and each so many beats for each other that comes home.
        """
        ends = []
        for beat in range(-2, len(log) + 2):
            chain = tell(letter, beat)
            if beat in beats:
                self.assertIs(type(chain), list)
                self.assertIs(is_chain(homes, stands, log, letter, beat, chain), True)
                self.assertIs(is_straight(net, homes, stands, log, letter, beat, chain), True)
                ends.append(chain[-1])
                self.longest = max(self.longest, len(chain))
                self.mixed += len(set(chain)) > 1
            else:
                self.assertIsNone(chain)
        self.assertEqual(len(set(ends)), len(ends))
        self.assertNotIn(letter, ends)
        arrived = others(homes, stands, log, letter)
        self.assertLessEqual(len(beats), arrived)
        first = [beat for beat in range(len(log)) if stands[beat][letter] is not None][:1]
        for beat in first:
            far = net.far(stands[beat][letter], homes[letter])
            self.assertLessEqual(home_at(homes, stands, log, letter) - beat, far + each * arrived)
        self.found += len(beats)

    def setUp(self):
        self.found = self.longest = self.mixed = 0

    def check_rule(self, net, homes, stands, log):
        for letter in range(len(homes)):
            self.check(net, homes, stands, log, letter, led_at(net, homes, stands, log, letter),
                       lambda one, beat: blame(net, homes, stands, log, one, beat))

    def test_on_trees_by_each_eager_rule(self):
        chance = Random(28)
        for time in range(60):
            net = random_tree(chance.randrange(3, 10), chance)
            self.assertTrue(is_tree(net))
            for rule in eager_rules(8):
                homes, stand = random_letters(net, 8, chance)
                log = run(rule, net, homes, stand, 500)
                self.assertEqual(stands_of(homes, stand, log)[-1], (None,) * 8)
                self.check_rule(net, homes, stands_of(homes, stand, log), log)
        self.assertGreater(self.found, 300)
        self.assertGreater(self.mixed, 10)
        self.assertGreater(self.longest, 4)

    def test_on_plain_rings_by_nearest_first(self):
        chance = Random(29)
        for time in range(120):
            net = ring_net(chance.randrange(3, 14))
            self.assertTrue(is_plain_ring(net))
            homes, stand = random_letters(net, 12, chance)
            log = run(Nearest(), net, homes, stand, 500)
            self.check_rule(net, homes, stands_of(homes, stand, log), log)
        self.assertGreater(self.found, 150)

    def test_on_trees_and_rings_with_letters_let_in(self):
        chance = Random(30)
        for time in range(60):
            for net, rule in ((random_tree(8, chance), chance.choice(eager_rules(8))), (ring_net(6), Nearest())):
                homes, starts = random_letters(net, 8, chance)
                stands, log = let_in_log(rule, net, homes, starts, chance)
                self.check_rule(net, homes, stands, log)
        self.assertGreater(self.found, 50)

    def test_on_trees_and_rings_by_a_plan(self):
        chance = Random(36)
        for time in range(60):
            for net, rule in ((random_tree(8, chance), chance.choice(eager_rules(9))), (ring_net(6), Nearest())):
                plan = random_plan(net, 9, chance)
                entries, log, stands = let_in_run(rule, net, plan, 500)
                self.check_rule(net, tuple(home for beat, start, home in plan), stands, log)
        self.assertGreater(self.found, 50)

    def check_lanes(self, box, homes, stands, cames, log):
        net = box.net()
        for letter in range(len(homes)):
            self.check(net, homes, stands, log, letter, led_at(net, homes, stands, log, letter),
                       lambda one, beat: lane_blame(box, homes, stands, cames, log, one, beat))

    def test_in_boxes_by_lanes(self):
        chance = Random(31)
        for sides in BOXES * 12:
            box = Box(sides)
            homes, stand = random_letters(box.net(), chance.randrange(1, 13), chance)
            try:
                came = berth(box, homes, stand)
            except NoBerth:
                continue
            log, cames = lane_run(box, homes, stand, came, 500)
            self.check_lanes(box, homes, stands_of(homes, stand, log), cames, log)
        self.assertGreater(self.found, 40)

    def test_in_crowded_boxes_by_lanes(self):
        chance = Random(32)
        for sides, house in (((3, 3), 4), ((3, 3, 3), 13), ((2, 2, 2, 2), 0), ((2, 2, 2, 2, 2), 31)) * 20:
            box = Box(sides)
            homes, came = crowded_berth(box, house, chance)
            stand = (house,) * len(came)
            log, cames = lane_run(box, homes, stand, came, 500)
            self.check_lanes(box, homes, stands_of(homes, stand, log), cames, log)
        self.assertGreater(self.found, 100)

    def test_in_boxes_by_lanes_with_letters_let_in(self):
        chance = Random(33)
        for sides in BOXES * 4:
            box = Box(sides)
            homes, starts = random_letters(box.net(), 16, chance)
            self.check_lanes(box, homes, *lane_log_let_in(box, homes, starts))
        self.assertGreater(self.found, 50)
        self.assertGreater(self.mixed, 5)

    def test_in_boxes_by_lanes_by_a_plan(self):
        chance = Random(37)
        for sides in BOXES * 6:
            box = Box(sides)
            plan = random_plan(box.net(), 16, chance)
            entries, log, stands, cames = let_in_lanes(box, plan, 500)
            self.check_lanes(box, tuple(home for beat, start, home in plan), stands, cames, log)
        self.assertGreater(self.found, 50)

    def test_in_boxes_where_letters_wait(self):
        chance = Random(34)
        for sides in BOXES * 6:
            box = Box(sides)
            homes, stand = crowded_letters(box.net(), 16, chance)
            stands, log = waiting_log(box, homes, stand)
            for letter in range(16):
                self.check(box.net(), homes, stands, log, letter, waited_at(stands, log, letter),
                           lambda one, beat: wait_blame(box, homes, stands, log, one, beat), each=1)
        self.assertGreater(self.found, 300)
        self.assertGreater(self.mixed, 10)


class LaneBlame(unittest.TestCase):

    def test_by_hand(self):
        # The letter 1 wishes for 5, which the letter 0 takes; that one goes on to its home at 8.
        box, homes, stand = Box((3, 3)), (8, 2), (4, 4)
        log, cames = lane_run(box, homes, stand, (3, 5), 99)
        self.assertEqual(log, [(5, 3), (8, 4), (None, 5), (None, 2)])
        stands = stands_of(homes, stand, log)
        self.assertEqual(lane_blame(box, homes, stands, cames, log, 1, 0), [0, 0])
        for letter, beat in ((0, 0), (0, 1), (0, 2), (1, 1), (1, 3), (1, 4), (1, -4), (1, -1), (2, 0), (-1, 0)):
            self.assertIsNone(lane_blame(box, homes, stands, cames, log, letter, beat))

    def test_the_reason_is_gone_along_with(self):
        # The letter 0 wishes for 16; the letter 1, who took it, is led about itself, by the letter 2.
        box, homes, stand = Box((3, 3, 3)), (16, 22, 22), (13, 13, 13)
        log, cames = lane_run(box, homes, stand, (12, 16, 4), 99)
        self.assertEqual(log[0], (12, 16, 22))
        stands = stands_of(homes, stand, log)
        self.assertEqual(lane_blame(box, homes, stands, cames, log, 0, 0), [2])
        self.assertEqual(lane_blame(box, homes, stands, cames, log, 1, 0), [2])

    def test_where_one_gone_along_with_is_led_about_its_reason_is_instead(self):
        # The letter 0 takes 5, ahead of the letter 1; from there it is led about by the letter 2, which came by way 1.
        box, homes, stand = Box((3, 3)), (8, 8, 8), (4, 4, 2)
        log, cames = lane_run(box, homes, stand, (3, 5, 5), 99)
        stands = stands_of(homes, stand, log)
        self.assertEqual(log[:2], [(5, 3, 5), (4, 4, 8)])
        self.assertEqual(lane_blame(box, homes, stands, cames, log, 1, 0), [0, 2])
        self.assertEqual(lane_blame(box, homes, stands, cames, log, 0, 1), [2])

    def test_the_log_ends_ahead(self):
        box, homes, stand = Box((3, 3)), (8, 2), (4, 4)
        log, cames = lane_run(box, homes, stand, (3, 5), 1)
        stands = stands_of(homes, stand, log)
        self.assertIsNone(lane_blame(box, homes, stands, cames, log, 1, 0))
        log, cames = lane_run(box, homes, stand, (3, 5), 2)
        self.assertEqual(lane_blame(box, homes, stands_of(homes, stand, log), cames, log, 1, 0), [0, 0])
        self.assertIsNone(lane_blame(box, homes, [stand], [(3, 5)], [], 1, 0))

    def test_by_the_words(self):
        chance = Random(35)
        found = 0
        for sides, house in (((3, 3, 3), 13), ((2, 2, 2, 2), 0), ((2, 2, 2, 2, 2), 31)) * 10:
            box = Box(sides)
            homes, came = crowded_berth(box, house, chance)
            stand = (house,) * len(homes)
            log, cames = lane_run(box, homes, stand, came, chance.randrange(1, 9))
            stands = stands_of(homes, stand, log)
            for letter in range(len(homes)):
                for beat in led_at(box.net(), homes, stands, log, letter):
                    chain, one = [], letter
                    for at in range(beat, len(log)):
                        why = reason(box, homes, stands[at], cames[at], one)
                        one = one if why is None else why
                        chain.append(one)
                        if log[at][one] == homes[one]:
                            break
                    right = chain if log[at][one] == homes[one] else None
                    self.assertEqual(lane_blame(box, homes, stands, cames, log, letter, beat), right)
                    found += right is not None
        self.assertGreater(found, 30)


class WaitBlame(unittest.TestCase):

    def test_by_hand(self):
        # All three stand at 0 and go to 2, along 1.
        box, homes = Box((3,)), (2, 2, 2)
        stands, log = waiting_log(box, homes, (0, 0, 0))
        self.assertEqual(log, [(1, 0, 0), (2, 1, 0), (None, 2, 1), (None, None, 2)])
        self.assertEqual(wait_blame(box, homes, stands, log, 1, 0), [0, 0])
        self.assertEqual(wait_blame(box, homes, stands, log, 2, 0), [0, 0])
        self.assertEqual(wait_blame(box, homes, stands, log, 2, 1), [1, 1])
        for letter, beat in ((0, 0), (0, 1), (0, 2), (1, 1), (1, 2), (1, 3), (2, 2), (2, 3), (2, 4), (2, -3), (2, -4),
                             (1, -4), (3, 0), (-1, 0), (-1, 1), (-2, 0)):
            self.assertIsNone(wait_blame(box, homes, stands, log, letter, beat))

    def test_where_one_gone_along_with_waits_the_one_that_took_its_tie_is_instead(self):
        # The letter 2 waits for 1; that one, at 3, waits for 0, which comes home by beat 1.
        box, homes = Box((3, 3)), (0, 0, 0)
        stands, log = waiting_log(box, homes, (4, 6, 6))
        self.assertEqual(log, [(3, 3, 6), (0, 3, 3), (None, 0, 3), (None, None, 0)])
        self.assertEqual(wait_blame(box, homes, stands, log, 2, 0), [1, 0])
        self.assertEqual(wait_blame(box, homes, stands, log, 1, 1), [0])

    def test_the_log_ends_ahead(self):
        box, homes = Box((3,)), (2, 2, 2)
        stands, log = waiting_log(box, homes, (0, 0, 0))
        self.assertIsNone(wait_blame(box, homes, stands[:2], log[:1], 1, 0))
        self.assertEqual(wait_blame(box, homes, stands[:3], log[:2], 1, 0), [0, 0])
        self.assertIsNone(wait_blame(box, homes, stands[:3], log[:2], 2, 1))
        self.assertIsNone(wait_blame(box, homes, stands[:1], [], 1, 0))


class WhatIsHandedInStays(unittest.TestCase):

    def test_lists_stay_and_told_ones_are_new(self):
        box, homes = Box((3, 3)), (8, 2)
        log, cames = lane_run(box, homes, (4, 4), (3, 5), 99)
        stands = stands_of(homes, (4, 4), log)
        waits, waiting = waiting_log(Box((3,)), (2, 2, 2), (0, 0, 0))
        kept = copy.deepcopy((STANDS, LOG, stands, cames, log, waits, waiting))
        for asked, right in ((lambda: blame(TREE, HOMES, STANDS, LOG, 2, 0), [1, 0, 0]),
                             (lambda: lane_blame(box, homes, stands, cames, log, 1, 0), [0, 0]),
                             (lambda: wait_blame(Box((3,)), (2, 2, 2), waits, waiting, 2, 1), [1, 1])):
            told = asked()
            self.assertEqual(told, right)
            self.assertIsNot(asked(), told)
            told.clear()
            self.assertEqual(asked(), right)
        self.assertEqual((STANDS, LOG, stands, cames, log, waits, waiting), kept)


def blame_by_the_words(net, homes, stands, log, letter, beat):
    """Point 19, of a letter led about."""
    chain = []
    one = letter
    for at in range(beat, len(log)):
        house = stands[at][one]
        if net.far(log[at][one], homes[one]) >= net.far(house, homes[one]):
            tie = net.good(house, homes[one])[0]
            one, = [i for i in range(len(homes)) if (stands[at][i], log[at][i]) == (house, tie)]
        chain.append(one)
        if log[at][one] == homes[one]:
            return chain
    return None


def lane_log_let_in(box, homes, starts):
    """Stands, cames and a log by lanes; at each beat letters are let in where there is a berth for them."""
    coming = [letter for letter in range(len(homes)) if starts[letter] is not None]
    stand = came = (None,) * len(homes)
    stands, cames, log = [], [], []
    while coming or any(house is not None for house in stand):
        for letter in list(coming):
            house = starts[letter]
            for other in box.net().out(house):
                in_stand = stand[:letter] + (house,) + stand[letter + 1:]
                in_came = came[:letter] + (other,) + came[letter + 1:]
                if letter in coming and is_berthed(box, homes, in_stand, in_came):
                    stand, came = in_stand, in_came
                    coming.remove(letter)
        stands.append(stand)
        cames.append(came)
        log.append(lane_hand(box, homes, stand, came))
        here, stand = stand, stand_behind(homes, log[-1])
        came = tuple(None if later is None else now for now, later in zip(here, stand))
    return stands + [stand], cames + [came], log


if __name__ == "__main__":
    unittest.main()
