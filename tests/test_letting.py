import copy
import unittest
from random import Random

from neverwait.boxes import Box
from neverwait.errors import NoBerth, NoPlan, NoRanks
from neverwait.handing import hand
from neverwait.lanes import berth, is_berthed, lane_hand
from neverwait.letting import let_in_lanes, let_in_run
from neverwait.logs import home_at, led_at, stands_of
from neverwait.measures import others
from neverwait.rules import Elder, InTurn, Nearest, Ranked, Turns
from neverwait.runs import lane_run, run
from neverwait.shapes import box_net, ring_net
from neverwait.stands import behind, is_stand
from tests.samples import (all_rules, eager_rules, odd_numbers, odd_things, one_way_ring, random_letters, random_plan,
                           random_tree, sample_nets)

ROW = box_net((4,))
FLAT = Box((3, 3))
BOXES = [Box(sides) for sides in ((2,), (8,), (3, 3), (4, 4), (8, 4), (2, 2, 2), (2, 3, 4), (2, 2, 2, 2, 2))]

# All three begin at the end of a row, from which one tie leads out.
QUEUE = [(0, 0, 3), (0, 0, 3), (0, 0, 3)]
QUEUE_LOG = [(1, None, None), (2, 1, None), (3, 2, 1), (None, 3, 2), (None, None, 3)]
QUEUE_STANDS = [(0, None, None), (1, 0, None), (2, 1, 0), (None, 2, 1), (None, None, 2), (None, None, None)]

# The letter 2 finds both ties of way 0 taken at beat 0, and the letter 3 stays behind it.
LANES = [(0, 4, 8), (0, 4, 2), (0, 4, 5), (0, 4, 7)]
LANES_LOG = [(5, 3, None, None), (8, 4, 5, 7), (None, 5, None, None), (None, 2, None, None)]
LANES_STANDS = [(4, 4, None, None), (5, 3, 4, 4), (None, 4, None, None), (None, 5, None, None), (None,) * 4]
LANES_CAMES = [(3, 5, None, None), (4, 4, 3, 1), (None, 3, None, None), (None, 4, None, None), (None,) * 4]


def wrong_plans():
    """What is no plan for four houses."""
    rows = [(0, 1), (0, 1, 2, 3), (), [0, 1, 2], "012", (0, 1, 1), (0, 4, 1), (0, 1, 4), (0, -1, 1), (0, 1, -1),
            (-1, 0, 1), (True, 0, 1), (False, 0, 1), (0, True, 2), (0, 2, True), (0, False, 2), (0, 2, False),
            ((0, 1, 2),), (None, 1, 2), (0, None, 2), (0, 1, None)]
    rows += odd_things()
    rows += [row for thing in odd_numbers() for row in ((0, thing, 2), (0, 1, thing))]
    rows += [(thing, 1, 2) for thing in odd_numbers() if type(thing) is not int or thing < 0]
    plans = [plan for row in rows for plan in ([row], [(0, 1, 2), row], [row, (0, 1, 2)])]
    plans += [[(1, 0, 1), (0, 0, 1)], [(0, 0, 1), (5, 0, 1), (4, 0, 1)], [(10 ** 59, 0, 1), (0, 0, 1)]]
    return plans + odd_not_lists() + [tuple(QUEUE), {0: (0, 0, 3)}, iter(QUEUE), ((0, 0, 3),), (0, 0, 3)]


def odd_not_lists():
    return [thing for thing in odd_things() if not isinstance(thing, list)]


class Plans(unittest.TestCase):

    def test_what_is_none(self):
        plans = wrong_plans()
        self.assertGreater(len(plans), 300)
        box = Box((4,))
        for plan in plans:
            for most in (0, 5):
                for rule in (Elder(), InTurn()):
                    with self.assertRaises(NoPlan):
                        let_in_run(rule, ROW, plan, most)
                with self.assertRaises(NoPlan):
                    let_in_lanes(box, plan, most)

    def test_houses_of_the_net_at_hand(self):
        plan = [(0, 4, 0), (0, 0, 4)]
        with self.assertRaises(NoPlan):
            let_in_run(Elder(), ROW, plan, 9)
        with self.assertRaises(NoPlan):
            let_in_lanes(Box((4,)), plan, 9)
        self.assertEqual(let_in_run(Elder(), ring_net(5), plan, 9)[0], [0, 0])
        self.assertEqual(let_in_lanes(Box((5,)), plan, 9)[0], [0, 0])

    def test_an_empty_one(self):
        for most in (0, 1, 500):
            for rule in all_rules(0):
                self.assertEqual(let_in_run(rule, ROW, [], most), ([], [], [()]))
            self.assertEqual(let_in_lanes(FLAT, [], most), ([], [], [()], [()]))

    def test_beats_that_stay_alike(self):
        plan = [(2, 0, 1), (2, 3, 2), (2, 1, 0)]
        log = [(None, None, None), (None, None, None), (1, 2, 0)]
        stands = [(None, None, None), (None, None, None), (0, 3, 1), (None, None, None)]
        self.assertEqual(let_in_run(Elder(), ROW, plan, 9), ([2, 2, 2], log, stands))

    def test_great_beats(self):
        for great in (4, 501, 10 ** 59):
            plan = [(great, 0, 1), (great, 1, 2)]
            told = ([None, None], [(None, None)] * 4, [(None, None)] * 5)
            self.assertEqual(let_in_run(Elder(), ROW, plan, 4), told)
            self.assertEqual(let_in_lanes(FLAT, plan, 4), told + ([(None, None)] * 5,))


class Ranks(unittest.TestCase):

    def test_not_as_many_as_letters(self):
        for most in (0, 1, 500):
            for many in (0, 1, 2, 4):
                with self.assertRaises(NoRanks):
                    let_in_run(Ranked((1,) * many), ROW, QUEUE, most)
            with self.assertRaises(NoRanks):
                let_in_run(Ranked((1,)), ROW, [], most)
            # Nothing is handed on, as no beat comes.
            with self.assertRaises(NoRanks):
                let_in_run(Ranked(()), ROW, [(999, 0, 1)], most)

    def test_no_plan_goes_first(self):
        for plan in wrong_plans():
            for most in (0, 3):
                with self.assertRaises(NoPlan):
                    let_in_run(Ranked((1,) * 9), ROW, plan, most)
                with self.assertRaises(NoPlan):
                    let_in_run(Ranked(()), ROW, plan, most)

    def test_the_least_rank_first(self):
        net = ring_net(6)
        plan = [(0, 0, 2), (0, 0, 2)]
        self.assertEqual(let_in_run(Ranked((1, 0)), net, plan, 1)[1], [(5, 1)])
        self.assertEqual(let_in_run(Ranked((0, 1)), net, plan, 1)[1], [(1, 5)])


class LetInRun(unittest.TestCase):

    def test_a_start_with_no_room(self):
        for rule in all_rules(3):
            self.assertEqual(let_in_run(rule, ROW, QUEUE, 500), ([0, 1, 2], QUEUE_LOG, QUEUE_STANDS))

    def test_cut_by_most(self):
        for most in range(6):
            entries = [beat if beat < most else None for beat in (0, 1, 2)]
            # The last stand is that behind the last handing, without those that would be let in then.
            last = stands_of((3, 3, 3), (None,) * 3, QUEUE_LOG[:most])[-1]
            told = (entries, QUEUE_LOG[:most], QUEUE_STANDS[:most] + [last])
            self.assertEqual(let_in_run(Elder(), ROW, QUEUE, most), told)
        self.assertEqual(let_in_run(Elder(), ROW, QUEUE, 1),
                         ([0, None, None], [(1, None, None)], [(0, None, None), (1, None, None)]))

    def test_most_0(self):
        for rule in all_rules(3):
            self.assertEqual(let_in_run(rule, ROW, QUEUE, 0), ([None, None, None], [], [(None, None, None)]))

    def test_letters_whose_beat_has_not_come(self):
        plan = [(0, 0, 1), (2, 0, 1), (2, 3, 1)]
        log = [(1, None, None), (None, None, None), (None, 1, 2), (None, None, 1)]
        stands = [(0, None, None), (None, None, None), (None, 0, 3), (None, None, 2), (None, None, None)]
        for rule in all_rules(3):
            self.assertEqual(let_in_run(rule, ROW, plan, 500), ([0, 2, 2], log, stands))

    def test_none_is_let_in_behind_one_that_is_not(self):
        # There would be room for the letter 2 at beat 0.
        plan = [(0, 0, 1), (0, 0, 1), (0, 2, 3)]
        self.assertEqual(let_in_run(Elder(), ROW, plan, 500),
                         ([0, 1, 1], [(1, None, None), (None, 1, 3)],
                          [(0, None, None), (None, 0, 2), (None, None, None)]))

    def test_a_handing_where_none_is_under_way(self):
        told = let_in_run(Elder(), ROW, [(3, 0, 1)], 500)
        self.assertEqual(told, ([3], [(None,), (None,), (None,), (1,)], [(None,), (None,), (None,), (0,), (None,)]))

    def test_who_is_handed_on_to_a_start_takes_its_room(self):
        # The letter 0 comes to 0 at beat 1, where the letter 1 would begin.
        plan = [(0, 1, 3), (0, 1, 3), (1, 0, 3)]
        entries, log, stands = let_in_run(Elder(), ROW, plan, 500)
        self.assertEqual(log[:3], [(2, 0, None), (3, 1, None), (None, 2, 1)])
        self.assertEqual((entries, stands[1], stands[2]), ([0, 0, 2], (2, 0, None), (None, 1, 0)))

    def test_on_one_way_ties(self):
        plan = [(0, 0, 2), (0, 0, 2), (0, 1, 0)]
        log = [(1, None, None), (2, 1, None), (None, 2, None), (None, None, 2), (None, None, 0)]
        stands = [(0, None, None), (1, 0, None), (None, 1, None), (None, None, 1), (None, None, 2), (None, None, None)]
        for rule in all_rules(3):
            self.assertEqual(let_in_run(rule, one_way_ring(3), plan, 500), ([0, 1, 3], log, stands))

    def test_the_rule_is_told_the_beat(self):
        # By turns the letter 1 is first at beat 1, the letter 0 at beat 0 and 2.
        net = ring_net(6)
        for beat, handing in ((0, (1, 5)), (1, (5, 1)), (2, (1, 5))):
            self.assertEqual(let_in_run(Turns(), net, [(beat, 0, 2), (beat, 0, 2)], beat + 1)[1][-1], handing)

    def test_by_the_words(self):
        chance = Random(60)
        later = cut = 0
        for net in sample_nets() * 4:
            for rule in all_rules(9):
                plan = random_plan(net, 9, chance)
                most = chance.choice((0, 1, 3, 10, 30, 100))
                told = let_in_run(rule, net, plan, most)
                self.assertEqual(told, let_in_by_the_words(rule, net, plan, most))
                self.assertEqual([type(part) for part in told], [list, list, list])
                self.assertIs(type(told), tuple)
                cut += None in told[0]
                later += sum(entry is not None and entry > row[0] for entry, row in zip(told[0], plan))
        self.assertGreater(later, 100)
        self.assertGreater(cut, 50)

    def test_each_stand_and_handing_is_one(self):
        chance = Random(61)
        for net in sample_nets() * 3:
            for rule in all_rules(8):
                plan = random_plan(net, 8, chance)
                homes = tuple(home for beat, start, home in plan)
                entries, log, stands = let_in_run(rule, net, plan, 60)
                self.assertEqual(len(stands), len(log) + 1)
                here = (None,) * 8
                for beat, handing in enumerate(log):
                    here = tuple(plan[letter][1] if entries[letter] == beat else here[letter] for letter in range(8))
                    self.assertEqual(stands[beat], here)
                    self.assertIs(is_stand(net, homes, here), True)
                    here = behind(net, homes, here, handing)
                self.assertEqual(stands[-1], here)

    def test_all_at_once_is_a_run(self):
        chance = Random(62)
        for net in sample_nets() * 4:
            homes, stand = random_letters(net, 7, chance)
            homes, stand = zip(*[pair for pair in zip(homes, stand) if pair[1] is not None])
            plan = [(0, start, home) for start, home in zip(stand, homes)]
            for rule in all_rules(len(plan)):
                log = run(rule, net, homes, stand, 40)
                self.assertEqual(let_in_run(rule, net, plan, 40), ([0] * len(plan), log, stands_of(homes, stand, log)))

    def test_all_come_home_by_elder_nearest_and_in_turn(self):
        chance = Random(63)
        for net in sample_nets() * 4:
            for rule in (Elder(), Nearest(), InTurn()):
                plan = random_plan(net, 10, chance)
                homes = tuple(home for beat, start, home in plan)
                entries, log, stands = let_in_run(rule, net, plan, 500)
                self.assertEqual(stands[-1], (None,) * 10)
                for letter in range(10):
                    first = [beat for beat in range(len(log)) if stands[beat][letter] is not None][0]
                    self.assertEqual(entries[letter], first)
                    self.assertGreaterEqual(first, plan[letter][0])
                    self.assertGreater(home_at(homes, stands, log, letter), first)
                self.assertEqual(len(log), max(home_at(homes, stands, log, letter) for letter in range(10)))
                self.assertEqual(entries, sorted(entries))

    def test_in_turn_the_first_letters_go_as_without_the_later_ones(self):
        chance = Random(64)
        for net in sample_nets() * 3:
            plan = random_plan(net, 9, chance)
            entries, log, stands = let_in_run(InTurn(), net, plan, 500)
            for many in range(9):
                fewer = let_in_run(InTurn(), net, plan[:many], 500)
                self.assertEqual(fewer[0], entries[:many])
                self.assertEqual(fewer[1], [handing[:many] for handing in log[:len(fewer[1])]])
                self.assertEqual(fewer[2], [stand[:many] for stand in stands[:len(fewer[2])]])


class LetInLanes(unittest.TestCase):

    def test_by_hand(self):
        self.assertEqual(let_in_lanes(FLAT, LANES, 500), ([0, 0, 1, 1], LANES_LOG, LANES_STANDS, LANES_CAMES))

    def test_by_a_rule_there_is_room(self):
        self.assertEqual(let_in_run(Elder(), FLAT.net(), LANES, 1)[0], [0, 0, 0, 0])

    def test_cut_by_most(self):
        for most in range(6):
            entries, log, stands, cames = let_in_lanes(FLAT, LANES, most)
            self.assertEqual(entries, [entry if entry < most else None for entry in (0, 0, 1, 1)])
            self.assertEqual(log, LANES_LOG[:most])
            self.assertEqual((stands[:-1], cames[:-1]), (LANES_STANDS[:len(log)], LANES_CAMES[:len(log)]))
        self.assertEqual(let_in_lanes(FLAT, LANES, 1)[2:], ([(4, 4, None, None), (5, 3, None, None)],
                                                            [(3, 5, None, None), (4, 4, None, None)]))

    def test_most_0(self):
        nothing = (None,) * 4
        self.assertEqual(let_in_lanes(FLAT, LANES, 0), ([None] * 4, [], [nothing], [nothing]))

    def test_letters_whose_beat_has_not_come(self):
        self.assertEqual(let_in_lanes(FLAT, [(1, 4, 5), (1, 8, 7)], 500),
                         ([1, 1], [(None, None), (5, 7)], [(None, None), (4, 8), (None, None)],
                          [(None, None), (3, 7), (None, None)]))

    def test_the_tie_that_it_came_by(self):
        # Of the greatest way that is no greater than its phase, to the lesser house.
        for home, tie in ((5, 3), (3, 3), (8, 3), (7, 1), (1, 1)):
            self.assertEqual(let_in_lanes(FLAT, [(0, 4, home)], 1)[3][0], (tie,))
        self.assertEqual(let_in_lanes(FLAT, [(0, 4, 7)] * 4, 1)[3][0], (1, 7, 3, 5))
        # No tie of way 0 is left for the letter 3, though two are free.
        self.assertEqual(let_in_lanes(FLAT, [(0, 4, 7), (0, 4, 5), (0, 4, 5), (0, 4, 5)], 1)[3][0], (1, 3, 5, None))

    def test_who_is_handed_on_there_took_a_tie(self):
        # The letter 0 comes to 4 from 3, so the letter 1, let in there, came by 5.
        entries, log, stands, cames = let_in_lanes(FLAT, [(0, 3, 5), (1, 4, 5), (1, 4, 3)], 500)
        self.assertEqual((entries, stands[1], cames[1]), ([0, 1, 2], (4, 4, None), (3, 5, None)))

    def test_by_the_words(self):
        chance = Random(65)
        later = cut = 0
        for box in BOXES * 12:
            plan = random_plan(box.net(), 12, chance)
            most = chance.choice((0, 1, 3, 10, 500))
            told = let_in_lanes(box, plan, most)
            self.assertEqual(told, let_in_lanes_by_the_words(box, plan, most))
            self.assertEqual([type(part) for part in told], [list] * 4)
            self.assertIs(type(told), tuple)
            cut += None in told[0]
            later += sum(entry is not None and entry > row[0] for entry, row in zip(told[0], plan))
        self.assertGreater(later, 40)
        self.assertGreater(cut, 20)

    def test_each_stand_is_berthed_and_all_come_home(self):
        chance = Random(66)
        for box in BOXES * 6:
            plan = random_plan(box.net(), 12, chance)
            homes = tuple(home for beat, start, home in plan)
            entries, log, stands, cames = let_in_lanes(box, plan, 500)
            self.assertEqual(len(stands), len(log) + 1)
            self.assertEqual(len(cames), len(stands))
            self.assertEqual(stands[-1], (None,) * 12)
            for beat, handing in enumerate(log):
                self.assertIs(is_stand(box.net(), homes, stands[beat]), True)
                self.assertIs(is_berthed(box, homes, stands[beat], cames[beat]), True)
                self.assertEqual(handing, lane_hand(box, homes, stands[beat], cames[beat]))
            self.assertIs(is_berthed(box, homes, stands[-1], cames[-1]), True)

    def test_all_at_once_is_a_run(self):
        chance = Random(67)
        done = 0
        for box in BOXES * 6:
            homes, stand = random_letters(box.net(), 6, chance)
            homes, stand = zip(*[pair for pair in zip(homes, stand) if pair[1] is not None])
            try:
                came = berth(box, homes, stand)
            except NoBerth:
                continue
            log, cames = lane_run(box, homes, stand, came, 500)
            plan = [(0, start, home) for start, home in zip(stand, homes)]
            self.assertEqual(let_in_lanes(box, plan, 500),
                             ([0] * len(plan), log, stands_of(homes, stand, log), cames))
            done += 1
        self.assertGreater(done, 20)


class HomeWithin(unittest.TestCase):
    """Points 3 and 17, of logs into which letters are let in by a plan."""

    def check(self, net, plan, entries, log, stands):
        homes = tuple(home for beat, start, home in plan)
        for letter, (beat, start, home) in enumerate(plan):
            about = len(led_at(net, homes, stands, log, letter))
            needed = home_at(homes, stands, log, letter) - entries[letter]
            bound = net.far(start, home) + 2 * others(homes, stands, log, letter)
            self.assertLessEqual(about, others(homes, stands, log, letter))
            self.assertLessEqual(needed, net.far(start, home) + 2 * about)
            self.assertLessEqual(needed, bound)
            self.about += about

    def setUp(self):
        self.about = 0

    def test_on_trees_by_each_eager_rule(self):
        chance = Random(68)
        for time in range(25):
            net = random_tree(chance.randrange(3, 11), chance)
            for rule in eager_rules(10):
                plan = random_plan(net, 10, chance)
                self.check(net, plan, *let_in_run(rule, net, plan, 500))
        self.assertGreater(self.about, 100)

    def test_on_plain_rings_by_nearest_first(self):
        chance = Random(69)
        for time in range(100):
            net = ring_net(chance.randrange(3, 12))
            plan = random_plan(net, 12, chance)
            self.check(net, plan, *let_in_run(Nearest(), net, plan, 500))
        self.assertGreater(self.about, 100)

    def test_in_boxes_by_lanes(self):
        chance = Random(70)
        for box in BOXES * 10:
            plan = random_plan(box.net(), 14, chance)
            self.check(box.net(), plan, *let_in_lanes(box, plan, 500)[:3])
        self.assertGreater(self.about, 50)


class WhatIsHandedInStays(unittest.TestCase):

    def askers(self):
        askers = [lambda plan, rule=rule: let_in_run(rule, FLAT.net(), plan, 9) for rule in all_rules(4)]
        return askers + [lambda plan: let_in_lanes(FLAT, plan, 9)]

    def test_the_plan_stays_and_may_be_changed(self):
        for asked in self.askers():
            plan = list(LANES)
            told = asked(plan)
            self.assertEqual(plan, LANES)
            kept = copy.deepcopy(told)
            plan.reverse()
            plan.append((99, 0, 1))
            self.assertEqual(told, kept)
            self.assertEqual(asked(list(LANES)), kept)

    def test_told_lists_are_new(self):
        asked_of = [(asked, LANES) for asked in self.askers()]
        asked_of += [(lambda plan: let_in_run(Elder(), ROW, plan, 0), LANES[:0]),
                     (lambda plan: let_in_lanes(FLAT, plan, 0), LANES[:0])]
        for asked, plan in asked_of:
            first = asked(plan)
            kept = copy.deepcopy(first)
            told = asked(plan)
            self.assertEqual(told, first)
            for part, other in zip(told, first):
                self.assertIsNot(part, other)
                part.append("none")
            self.assertEqual(first, kept)
            self.assertEqual(asked(plan), kept)

    def test_the_lists_of_one_answer_are_no_lists_of_another_part(self):
        for plan in ([], LANES):
            told = let_in_lanes(FLAT, plan, 0)
            told[2].append("none")
            self.assertEqual(len(told[3]), 1)

    def test_what_is_refused_changes_nothing(self):
        plan = [(0, 0, 3), (0, 0, 0)]
        with self.assertRaises(NoPlan):
            let_in_run(Elder(), ROW, plan, 9)
        self.assertEqual(plan, [(0, 0, 3), (0, 0, 0)])
        self.assertEqual(let_in_run(Elder(), ROW, QUEUE, 9), ([0, 1, 2], QUEUE_LOG, QUEUE_STANDS))


def let_in_by_the_words(rule, net, plan, most):
    """Point 22, by a rule."""
    homes = tuple(home for beat, start, home in plan)
    where = ["out"] * len(plan)
    entries, log, stands = {}, [], []
    while len(log) < most and (len(entries) < len(plan) or any(house is not None for house in where)):
        coming = [letter for letter in range(len(plan)) if letter not in entries]
        while coming:
            beat, start, home = plan[coming[0]]
            if len(log) < beat or where.count(start) == len(net.out(start)):
                break
            where[coming[0]] = start
            entries[coming.pop(0)] = len(log)
        stands.append(tuple(None if house == "out" else house for house in where))
        log.append(hand(rule, net, homes, stands[-1], len(log)))
        for letter, goes in enumerate(log[-1]):
            if goes is not None:
                where[letter] = None if goes == homes[letter] else goes
    stands.append(tuple(None if house == "out" else house for house in where))
    return [entries.get(letter) for letter in range(len(plan))], log, stands


def let_in_lanes_by_the_words(box, plan, most):
    """Point 22, by lanes."""
    homes = tuple(home for beat, start, home in plan)
    letters = range(len(plan))
    at, by, entries, done = {}, {}, {}, set()
    log, stands, cames = [], [], []
    while len(log) < most and len(done) < len(plan):
        for letter in letters:
            if letter in entries:
                continue
            beat, start, home = plan[letter]
            used = [by[other] for other in at if at[other] == start]
            free = [other for other in box.net().out(start) if other not in used
                    and box.way(start, other) <= box.phase(start, home)]
            if beat > len(log) or not free:
                break
            greatest = max(box.way(start, other) for other in free)
            at[letter] = start
            by[letter] = min(other for other in free if box.way(start, other) == greatest)
            entries[letter] = len(log)
        stands.append(tuple(at.get(letter) for letter in letters))
        cames.append(tuple(by.get(letter) for letter in letters))
        log.append(lane_hand(box, homes, stands[-1], cames[-1]))
        for letter in list(at):
            at[letter], by[letter] = log[-1][letter], at[letter]
            if at[letter] == homes[letter]:
                del at[letter], by[letter]
                done.add(letter)
    stands.append(tuple(at.get(letter) for letter in letters))
    cames.append(tuple(by.get(letter) for letter in letters))
    return [entries.get(letter) for letter in letters], log, stands, cames


if __name__ == "__main__":
    unittest.main()
