import unittest
from random import Random

from neverwait.boxes import Box
from neverwait.errors import NoBerth, NoRanks
from neverwait.handing import hand
from neverwait.lanes import berth, is_berthed, lane_hand
from neverwait.logs import stands_of
from neverwait.nettexts import net_text
from neverwait.rules import Elder, Farthest, InTurn, Nearest, Ranked, Turns
from neverwait.runs import lane_run, run
from neverwait.shapes import pairs_net, ring_net
from neverwait.stands import behind
from tests.samples import all_rules, mixed_net, odd_things, random_letters, sample_nets

RING = ring_net(6)
FLAT = Box((3, 3))


class BeatsHeard(Elder):
    """By number; keeps the beats that it is told."""

    def __init__(self):
        self.beats = []

    def order(self, net, homes, stand, beat):
        self.beats.append(beat)
        return Elder.order(self, net, homes, stand, beat)


class ByHand(unittest.TestCase):

    def test_by_each_rule_until_all_are_home(self):
        # Both letters stand at 0: the letter 0 goes to 3, the letter 1 to 1.
        first_ahead = [(1, 5), (2, 0), (3, 1)]
        second_ahead = [(5, 1), (4, None), (3, None)]
        for rule, log in ((Elder(), first_ahead), (Nearest(), second_ahead), (Farthest(), first_ahead),
                          (Turns(), first_ahead), (InTurn(), first_ahead), (Ranked((0, 0)), first_ahead),
                          (Ranked((1, 0)), second_ahead)):
            self.assertEqual(run(rule, RING, (3, 1), (0, 0), 500), log)

    def test_by_turns_with_the_beat_told(self):
        # Both letters come to 0 by beat 0, and wish to go on to 3; by then it is the turn of the letter 1.
        net = pairs_net(5, [(0, 1), (0, 2), (0, 3), (3, 4)])
        self.assertEqual(run(Elder(), net, (3, 3), (1, 2), 9), [(0, 0), (3, 1), (None, 0), (None, 3)])
        self.assertEqual(run(Turns(), net, (3, 3), (1, 2), 9), [(0, 0), (1, 3), (0, None), (3, None)])

    def test_cut_by_most(self):
        whole = [(1, 5), (2, 0), (3, 1)]
        for most in range(6):
            self.assertEqual(run(Elder(), RING, (3, 1), (0, 0), most), whole[:most])

    def test_no_letters_and_none_under_way(self):
        for most in (0, 1, 500):
            for rule in all_rules(0):
                self.assertEqual(run(rule, RING, (), (), most), [])
            for rule in all_rules(2):
                self.assertEqual(run(rule, RING, (1, 2), (None, None), most), [])

    def test_some_not_under_way(self):
        for rule in all_rules(3):
            self.assertEqual(run(rule, RING, (0, 2, 0), (None, 0, None), 9), [(None, 1, None), (None, 2, None)])

    def test_one_way_ties(self):
        self.assertEqual(run(Elder(), mixed_net(), (4, 4), (1, 1), 9), [(2, 0), (3, 1), (4, 2), (None, 3), (None, 4)])

    def test_a_run_without_end_is_cut(self):
        for most in (0, 1, 80, 500):
            log = run(Farthest(), ring_net(4), (1, 3, 0, 2, 2, 3, 2), (3, 1, 3, 1, 0, 2, 0), most)
            self.assertEqual(len(log), most)

    def test_at_each_beat_the_rule_is_told_it(self):
        rule = BeatsHeard()
        log = run(rule, RING, (2, 2), (0, 0), 500)
        self.assertEqual(rule.beats, [0, 1, 2, 3])
        self.assertEqual(log, [(1, 5), (2, 0), (None, 1), (None, 2)])
        rule = BeatsHeard()
        run(rule, RING, (2, 2), (0, 0), 2)
        self.assertEqual(rule.beats, [0, 1])


class Ranks(unittest.TestCase):

    def test_not_as_many_as_homes(self):
        for most in (0, 1, 500):
            for many in (0, 1, 3):
                for stand in ((0, 0), (None, 0), (None, None)):
                    with self.assertRaises(NoRanks):
                        run(Ranked((1,) * many), RING, (2, 2), stand, most)
            with self.assertRaises(NoRanks):
                run(Ranked((1,)), RING, (), (), most)


class Runs(unittest.TestCase):

    def test_beat_by_beat_on_many_nets(self):
        chance = Random(21)
        for net in sample_nets() * 4:
            homes, stand = random_letters(net, chance.randrange(9), chance)
            for rule in all_rules(len(homes)):
                whole = run(rule, net, homes, stand, 30)
                self.assertIs(type(whole), list)
                here = stand
                for beat, handing in enumerate(whole):
                    self.assertIs(type(handing), tuple)
                    self.assertTrue(any(house is not None for house in here))
                    self.assertEqual(handing, hand(rule, net, homes, here, beat))
                    here = behind(net, homes, here, handing)
                if len(whole) < 30:
                    self.assertEqual(here, (None,) * len(homes))
                for most in (0, 1, 2, 7, 29):
                    self.assertEqual(run(rule, net, homes, stand, most), whole[:most])

    def test_told_alike_new_and_the_net_stays(self):
        text = net_text(RING)
        for stand in ((0, 0), (None, None)):
            for rule in all_rules(2):
                first = run(rule, RING, (2, 2), stand, 9)
                told = run(rule, RING, (2, 2), stand, 9)
                self.assertIsNot(told, first)
                told.append("none")
                self.assertEqual(run(rule, RING, (2, 2), stand, 9), first)
        self.assertEqual(net_text(RING), text)


class LaneRuns(unittest.TestCase):

    def test_by_hand(self):
        # The letter 1 wishes for 5 as well and goes to 3; from there it goes back, along 4 and 5 to 2.
        log = [(5, 3), (8, 4), (None, 5), (None, 2)]
        cames = [(3, 5), (4, 4), (None, 3), (None, 4), (None, None)]
        self.assertEqual(lane_run(FLAT, (8, 2), (4, 4), (3, 5), 500), (log, cames))
        for most in range(7):
            self.assertEqual(lane_run(FLAT, (8, 2), (4, 4), (3, 5), most), (log[:most], cames[:most + 1]))

    def test_nothing_to_do(self):
        for most in (0, 500):
            self.assertEqual(lane_run(FLAT, (), (), (), most), ([], [()]))
            self.assertEqual(lane_run(FLAT, (1, 2), (None, None), (None, None), most), ([], [(None, None)]))

    def test_who_comes_home_came_by_nothing(self):
        self.assertEqual(lane_run(FLAT, (5,), (4,), (3,), 1), ([(5,)], [(3,), (None,)]))
        self.assertEqual(lane_run(FLAT, (8, 0), (4, None), (3, None), 1), ([(5, None)], [(3, None), (4, None)]))

    def test_where_the_stand_is_not_berthed(self):
        cames = [(), (3,), (3, 3), (3, 1), (3, None), (None, None), (3, 4), (3, 5, None), (3, -1), (3, 99)]
        cames += [row for thing in odd_things() for row in ((thing, 3), (3, thing))]
        for came in cames:
            for most in (0, 1, 500):
                with self.assertRaises(NoBerth):
                    lane_run(FLAT, (7, 8), (4, 4), came, most)
        for most in (0, 9):
            for came in ((4,), (), (None, None), (False,)):
                with self.assertRaises(NoBerth):
                    lane_run(FLAT, (7,), (None,), came, most)

    def test_beat_by_beat_in_many_boxes(self):
        chance = Random(22)
        done = 0
        for sides in ((2,), (8,), (3, 3), (8, 4), (2, 2, 2), (2, 3, 4), (2, 2, 2, 2, 2)) * 8:
            box = Box(sides)
            net = box.net()
            homes, here = random_letters(net, chance.randrange(10), chance)
            try:
                came = berth(box, homes, here)
            except NoBerth:
                continue
            told = lane_run(box, homes, here, came, 500)
            self.assertIs(type(told), tuple)
            log, cames = told
            self.assertEqual([type(told) for told in (log, cames)], [list, list])
            self.assertEqual(cames[0], came)
            stands = stands_of(homes, here, log)
            self.assertEqual(len(cames), len(stands))
            for beat, handing in enumerate(log):
                self.assertIs(type(cames[beat]), tuple)
                self.assertIs(is_berthed(box, homes, stands[beat], cames[beat]), True)
                self.assertEqual(handing, lane_hand(box, homes, stands[beat], cames[beat]))
                self.assertEqual(behind(net, homes, stands[beat], handing), stands[beat + 1])
                self.assertEqual(cames[beat + 1], tuple(None if there is None else place for place, there
                                                        in zip(stands[beat], stands[beat + 1])))
                self.assertTrue(any(house is not None for house in stands[beat]))
            self.assertEqual(stands[-1], (None,) * len(homes))
            for most in (0, 1, 2, 5):
                cut = lane_run(box, homes, here, came, most)
                self.assertEqual(cut, (log[:most], cames[:most + 1]))
            done += len(log)
        self.assertGreater(done, 100)

    def test_told_alike_and_new(self):
        for args in ((FLAT, (8, 2), (4, 4), (3, 5), 9), (FLAT, (8,), (None,), (None,), 9)):
            first = lane_run(*args)
            log, cames = lane_run(*args)
            self.assertIsNot(log, first[0])
            self.assertIsNot(cames, first[1])
            log.append("none")
            cames.clear()
            self.assertEqual(lane_run(*args), first)


if __name__ == "__main__":
    unittest.main()
