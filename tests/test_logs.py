import copy
import unittest
from random import Random

from neverwait.boxes import Box
from neverwait.logs import home_at, led_at, stands_of, waited_at
from neverwait.runs import run
from neverwait.shapes import box_net, ring_net, words_net
from tests.samples import (all_rules, complete_net, crowded_letters, let_in_log, one_way_ring, random_letters,
                           random_tree, sample_nets, waiting_log)

RING = ring_net(6)
HOMES = (2, 2)
# By elder from (0, 0): the letter 1 is led about at beat 0.
LOG = [(1, 5), (2, 0), (None, 1), (None, 2)]
STANDS = [(0, 0), (1, 5), (None, 0), (None, 1), (None, None)]

# A waiting log along the houses 0, 1, 2: both letters begin at 0, their homes are 2.
WAITING = [(1, 0), (2, 1), (None, 2)]
WAITING_STANDS = [(0, 0), (1, 0), (None, 1), (None, None)]

# The letter 1 is let in behind the second handing; the letter 0 is led about at the beats 1 and 2.
LATER = [(1, None), (0, None), (5, 1), (0, 2), (1, None), (2, None)]
LATER_STANDS = [(0, None), (1, None), (0, 0), (5, 1), (0, None), (1, None), (None, None)]


class StandsOf(unittest.TestCase):

    def test_an_empty_log(self):
        self.assertEqual(stands_of(HOMES, (0, 0), []), [(0, 0)])
        self.assertEqual(stands_of(HOMES, (None, None), []), [(None, None)])
        self.assertEqual(stands_of((), (), []), [()])

    def test_letters_come_home(self):
        self.assertEqual(stands_of(HOMES, (0, 0), LOG), STANDS)
        self.assertEqual(stands_of(HOMES, (0, 0), LOG[:2]), STANDS[:3])

    def test_a_waiting_log(self):
        self.assertEqual(stands_of(HOMES, (0, 0), WAITING), WAITING_STANDS)

    def test_a_house_that_is_anothers_home(self):
        self.assertEqual(stands_of((0, 1), (1, 0), [(2, 2), (1, 1)]), [(1, 0), (2, 2), (1, None)])
        self.assertEqual(stands_of((0, 1), (1, 5), [(0, 0)]), [(1, 5), (None, 0)])

    def test_no_letter_and_none_under_way(self):
        self.assertEqual(stands_of((), (), [(), ()]), [(), (), ()])
        self.assertEqual(stands_of((3,), (None,), [(None,)]), [(None,), (None,)])

    def test_kinds_and_newness(self):
        log = list(LOG)
        told = stands_of(HOMES, (0, 0), log)
        self.assertIs(type(told), list)
        self.assertEqual({type(stand) for stand in told}, {tuple})
        self.assertEqual(log, LOG)
        told.clear()
        log.clear()
        self.assertEqual(stands_of(HOMES, (0, 0), LOG), STANDS)
        self.assertIsNot(stands_of(HOMES, (0, 0), []), stands_of(HOMES, (0, 0), []))


class HomeAt(unittest.TestCase):

    def test_who_comes_home(self):
        self.assertEqual(home_at(HOMES, STANDS, LOG, 0), 2)
        self.assertEqual(home_at(HOMES, STANDS, LOG, 1), 4)
        self.assertEqual(home_at((1,), [(0,), (None,)], [(1,)], 0), 1)

    def test_who_does_not(self):
        self.assertIsNone(home_at(HOMES, STANDS[:2], LOG[:1], 0))
        self.assertIsNone(home_at(HOMES, STANDS[:4], LOG[:3], 1))
        self.assertIsNone(home_at(HOMES, [(0, 0)], [], 0))
        self.assertIsNone(home_at(HOMES, [(None, 0), (None, 1)], [(None, 1)], 0))

    def test_who_is_let_in_later(self):
        self.assertEqual(home_at(HOMES, LATER_STANDS, LATER, 0), 6)
        self.assertEqual(home_at(HOMES, LATER_STANDS, LATER, 1), 4)

    def test_who_waits(self):
        self.assertEqual([home_at(HOMES, WAITING_STANDS, WAITING, letter) for letter in (0, 1)], [2, 3])

    def test_a_house_that_is_anothers_home(self):
        self.assertEqual([home_at((0, 1), [(1, 0), (2, 2), (1, None)], [(2, 2), (1, 1)], i) for i in (0, 1)], [None, 2])

    def test_what_is_no_letter(self):
        for letter in (-1, -2, 2, 3):
            self.assertIsNone(home_at(HOMES, STANDS, LOG, letter))


class LedAt(unittest.TestCase):

    def test_rising_beats(self):
        self.assertEqual(led_at(RING, HOMES, STANDS, LOG, 0), [])
        self.assertEqual(led_at(RING, HOMES, STANDS, LOG, 1), [0])
        about = [(5,), (4,), (5,), (0,), (5,), (0,), (1,), (2,)]
        self.assertEqual(led_at(RING, (2,), stands_of((2,), (0,), about), about, 0), [0, 2, 4])
        self.assertEqual(led_at(RING, (2,), stands_of((2,), (5,), [(0,), (5,)]), [(0,), (5,)], 0), [1])

    def test_who_stays_as_far(self):
        log = [(1, 2), (2, 3), (3, None)]
        self.assertEqual(led_at(complete_net(4), (3, 3), stands_of((3, 3), (0, 0), log), log, 0), [0, 1])
        self.assertEqual(led_at(complete_net(4), (3, 3), stands_of((3, 3), (0, 0), log), log, 1), [0])

    def test_the_last_handing_of_a_log_that_is_cut(self):
        self.assertEqual(led_at(RING, HOMES, STANDS[:2], LOG[:1], 1), [0])
        self.assertEqual(led_at(RING, HOMES, [(0, 0)], [], 1), [])

    def test_who_is_let_in_later(self):
        self.assertEqual(led_at(RING, HOMES, LATER_STANDS, LATER, 0), [1, 2])
        self.assertEqual(led_at(RING, HOMES, LATER_STANDS, LATER, 1), [])

    def test_who_waits_is_not_led(self):
        net = box_net((3,))
        for letter in (0, 1):
            self.assertEqual(led_at(net, HOMES, WAITING_STANDS, WAITING, letter), [])

    def test_what_is_no_letter(self):
        for letter in (-1, -2, 2, 3):
            self.assertEqual(led_at(RING, HOMES, STANDS, LOG, letter), [])


class WaitedAt(unittest.TestCase):

    def test_who_waits(self):
        self.assertEqual(waited_at(WAITING_STANDS, WAITING, 0), [])
        self.assertEqual(waited_at(WAITING_STANDS, WAITING, 1), [0])
        stands, log = waiting_log(Box((4,)), (3, 3, 3), (0, 0, 0))
        self.assertEqual(waited_at(stands, log, 2), [0, 1])

    def test_not_ahead_of_being_let_in_nor_behind_coming_home(self):
        for letter in (0, 1):
            self.assertEqual(waited_at(LATER_STANDS, LATER, letter), [])
            self.assertEqual(waited_at(STANDS, LOG, letter), [])
        self.assertEqual(waited_at([(0, None), (0, 0), (1, 0), (None, 1)], [(0, None), (1, 0), (2, 1)], 1), [1])
        self.assertEqual(waited_at([(0, None), (0, 0), (1, 0), (None, 1)], [(0, None), (1, 0), (2, 1)], 0), [0])

    def test_a_log_that_is_cut(self):
        self.assertEqual(waited_at(WAITING_STANDS[:2], WAITING[:1], 1), [0])
        self.assertEqual(waited_at([(0, 0)], [], 1), [])

    def test_what_is_no_letter(self):
        for letter in (-1, -2, 2, 3):
            self.assertEqual(waited_at(WAITING_STANDS, WAITING, letter), [])


class HowManyHandings(unittest.TestCase):
    """Point 17, and what point 21 tells of waiting logs."""

    def check(self, net, homes, stands, log, letter, even):
        beats = [beat for beat in range(len(log)) if stands[beat][letter] is not None]
        home = home_at(homes, stands, log, letter)
        if home is not None:
            needed = home - beats[0]
            self.assertEqual(needed, len(beats))
            most = net.far(stands[beats[0]][letter], homes[letter])
            most += 2 * len(led_at(net, homes, stands, log, letter))
            self.assertEqual(waited_at(stands, log, letter), [])
            if even:
                self.assertEqual(needed, most)
            else:
                self.assertLessEqual(needed, most)

    def check_runs(self, nets, chance, even):
        for net in nets:
            homes, stand = random_letters(net, 8, chance)
            log = run(chance.choice(all_rules(8)), net, homes, stand, 60)
            for letter in range(8):
                self.check(net, homes, stands_of(homes, stand, log), log, letter, even)

    def test_nets_without_rings_of_an_odd_number_of_ties(self):
        chance = Random(16)
        for time in range(40):
            self.check_runs([ring_net(8), box_net((3, 3)), box_net((2, 2, 3)), words_net(3, 2), random_tree(9, chance)],
                            chance, True)

    def test_any_two_way_net(self):
        chance = Random(17)
        for time in range(40):
            self.check_runs([ring_net(7), ring_net(3), words_net(2, 3), complete_net(5)], chance, False)

    def test_letters_let_in_one_behind_another(self):
        chance = Random(18)
        for time in range(60):
            net = random_tree(9, chance)
            homes, starts = random_letters(net, 8, chance)
            stands, log = let_in_log(chance.choice(all_rules(8)[:2]), net, homes, starts, chance)
            for letter in range(8):
                self.check(net, homes, stands, log, letter, True)
                self.assertEqual(home_at(homes, stands, log, letter) is None, starts[letter] is None)

    def test_waiting_logs(self):
        chance = Random(19)
        waits = 0
        for sides in ((4,), (3, 3), (2, 2, 2), (8, 4)) * 15:
            box = Box(sides)
            homes, stand = crowded_letters(box.net(), 9, chance)
            stands, log = waiting_log(box, homes, stand)
            self.assertEqual(stands_of(homes, stand, log), stands)
            for letter in range(9):
                waited = waited_at(stands, log, letter)
                self.assertEqual(home_at(homes, stands, log, letter),
                                 box.net().far(stand[letter], homes[letter]) + len(waited))
                self.assertEqual(led_at(box.net(), homes, stands, log, letter), [])
                waits += len(waited)
        self.assertGreater(waits, 100)


class WhatIsHandedInStays(unittest.TestCase):

    def test_lists_stay_and_told_ones_are_new(self):
        net = one_way_ring(7)
        for homes, stands, log in ((HOMES, STANDS, LOG), (HOMES, LATER_STANDS, LATER)):
            kept = copy.deepcopy((stands, log))
            for letter in (0, 1):
                home_at(homes, stands, log, letter)
                for asked in (lambda: led_at(net, homes, stands, log, letter),
                              lambda: waited_at(stands, log, letter)):
                    first = asked()
                    self.assertIs(type(first), list)
                    told = asked()
                    self.assertIsNot(told, first)
                    told.append(99)
                    self.assertEqual(asked(), first)
            self.assertEqual((stands, log), kept)

    def test_by_the_words_on_many_nets(self):
        chance = Random(20)
        for net in sample_nets() * 4:
            homes, starts = random_letters(net, 6, chance)
            stands, log = let_in_log(chance.choice(all_rules(6)[:2]), net, homes, starts, chance)
            for i in range(6):
                beats = [b for b in range(len(log)) if log[b][i] is not None]
                about = [b for b in beats if net.far(log[b][i], homes[i]) >= net.far(stands[b][i], homes[i])]
                self.assertEqual(led_at(net, homes, stands, log, i), about)
                self.assertEqual(waited_at(stands, log, i), [])
                home = [b + 1 for b in beats if log[b][i] == homes[i]]
                self.assertEqual(home_at(homes, stands, log, i), home[0] if home else None)


if __name__ == "__main__":
    unittest.main()
