"""The names, arguments and classes that the interface lists, over the whole program."""

import copy
import importlib
import inspect
import unittest
from random import Random

from neverwait import errors
from neverwait.blame import blame, lane_blame, wait_blame
from neverwait.boxes import Box
from neverwait.chains import is_chain, is_straight
from neverwait.desk import Desk
from neverwait.eager import is_eager, led
from neverwait.handing import hand
from neverwait.lanes import berth, is_berthed, lane_hand, reason
from neverwait.letting import let_in_lanes, let_in_run
from neverwait.logs import home_at, led_at, stands_of, waited_at
from neverwait.measures import elder_bound, measure, others
from neverwait.mirrors import mirrored, mirrored_row
from neverwait.nets import Net, is_plain_ring, is_tree
from neverwait.nettexts import net_text, read_net
from neverwait.rounds import round_of
from neverwait.rules import Elder, Farthest, InTurn, Nearest, Ranked, Rule, Turns
from neverwait.runs import lane_run, run
from neverwait.shapes import box_net, pairs_net, ring_net, without, words_net
from neverwait.small import least, worst
from neverwait.stands import behind, is_stand, wrong
from neverwait.waiting import wait_hand, wait_run
from tests.samples import all_rules, random_letters, random_plan

FUNCTIONS = """
nets: is_tree(net) is_plain_ring(net)
shapes: box_net(sides) ring_net(many) words_net(figures,base) pairs_net(many,pairs) without(net,one,other)
nettexts: net_text(net) read_net(text)
stands: is_stand(net,homes,thing) wrong(net,homes,stand,thing) behind(net,homes,stand,handing)
eager: led(net,homes,stand,handing) is_eager(net,homes,stand,handing)
handing: hand(rule,net,homes,stand,beat)
lanes: is_berthed(box,homes,stand,came) berth(box,homes,stand) lane_hand(box,homes,stand,came)
lanes: reason(box,homes,stand,came,letter)
logs: stands_of(homes,stand,log) home_at(homes,stands,log,letter) led_at(net,homes,stands,log,letter)
logs: waited_at(stands,log,letter)
runs: run(rule,net,homes,stand,most) lane_run(box,homes,stand,came,most)
chains: is_chain(homes,stands,log,letter,beat,thing) is_straight(net,homes,stands,log,letter,beat,chain)
blame: blame(net,homes,stands,log,letter,beat) lane_blame(box,homes,stands,cames,log,letter,beat)
blame: wait_blame(box,homes,stands,log,letter,beat)
measures: measure(net,homes,stand) elder_bound(net,homes,stand,letter) others(homes,stands,log,letter)
waiting: wait_hand(box,homes,stand) wait_run(box,homes,stand,most)
letting: let_in_run(rule,net,plan,most) let_in_lanes(box,plan,most)
rounds: round_of(rule,net,homes,stand,most)
small: least(net,homes,stand) worst(rule,net,letters)
mirrors: mirrored(box,ways,house) mirrored_row(box,ways,row)
"""

METHODS = """
nets.Net: many() ties() out(house) far(one,other) span() good(house,home) is_two_way()
rules.Rule: order(net,homes,stand,beat) period(homes)
boxes.Box: net() sides() place(house) house(place) way(one,other) phase(house,home) wish(house,home)
desk.Desk: say(row)
"""

REFUSALS = """NoNet NoShape NoTie NoText NoHouse NoRanks NoStand NoBerth NoHanding NoPlan TooMany NoRow""".split()


def listed(text):
    """The file or class, the name and the parameters of each listed thing."""
    for line in text.split("\n"):
        where, sign, rest = line.partition(": ")
        for part in rest.split():
            name, sign, names = part.rstrip(")").partition("(")
            yield where, name, [one for one in names.split(",") if one]


def parameters(thing):
    return list(inspect.signature(thing).parameters)


class Names(unittest.TestCase):

    def test_functions(self):
        found = 0
        for file, name, names in listed(FUNCTIONS):
            function = getattr(importlib.import_module(f"neverwait.{file}"), name)
            self.assertEqual(function.__module__, f"neverwait.{file}")
            self.assertEqual(parameters(function), names, name)
            found += 1
        self.assertEqual(found, 42)

    def test_methods(self):
        for where, name, names in listed(METHODS):
            file, kind = where.split(".")
            owner = getattr(importlib.import_module(f"neverwait.{file}"), kind)
            self.assertEqual(parameters(getattr(owner, name)), ["self"] + names, name)

    def test_classes_are_made_of(self):
        for kind, names in ((Net, ["many", "ties"]), (Box, ["sides"]), (Desk, []), (Ranked, ["ranks"]), (Elder, []),
                            (Nearest, []), (Farthest, []), (Turns, []), (InTurn, [])):
            self.assertEqual(parameters(kind), names)

    def test_rules_stand_straight_under_rule(self):
        for rule in all_rules(2):
            self.assertEqual(type(rule).__bases__, (Rule,))

    def test_refusals(self):
        for name in REFUSALS:
            refusal = getattr(errors, name)
            self.assertEqual(refusal.__bases__, (errors.BeatError,))
            self.assertEqual(str(refusal("why")), "why")
            self.assertEqual(str(refusal()), "")
        self.assertEqual(errors.BeatError.__bases__, (ValueError,))


class EachByItsOwnClass(unittest.TestCase):

    def test_each_refusal(self):
        net, box = ring_net(4), Box((3, 3))
        for name, asked in (("NoNet", lambda: Net(1, [])), ("NoNet", lambda: pairs_net(3, [(0, 1)])),
                            ("NoNet", lambda: without(box_net((3,)), 0, 1)), ("NoNet", lambda: Desk().say("show")),
                            ("NoShape", lambda: box_net(())), ("NoShape", lambda: ring_net(2)),
                            ("NoShape", lambda: words_net(6, 2)), ("NoShape", lambda: Box((1,))),
                            ("NoTie", lambda: without(net, 0, 2)), ("NoTie", lambda: box.way(0, 2)),
                            ("NoText", lambda: read_net("net")), ("NoHouse", lambda: net.out(4)),
                            ("NoHouse", lambda: box.place(9)), ("NoRanks", lambda: Ranked([])),
                            ("NoRanks", lambda: hand(Ranked(()), net, (1,), (0,), 0)),
                            ("NoRanks", lambda: run(Ranked(()), net, (1,), (0,), 0)),
                            ("NoRanks", lambda: let_in_run(Ranked(()), net, [(0, 0, 1)], 0)),
                            ("NoRanks", lambda: round_of(Ranked(()), net, (1,), (None,), 0)),
                            ("NoStand", lambda: desk_with("ring 4").say("letter 0 0")),
                            ("NoBerth", lambda: berth(box, (1, 1), (0, 0))),
                            ("NoBerth", lambda: lane_hand(box, (1,), (0,), (2,))),
                            ("NoBerth", lambda: lane_run(box, (1,), (0,), (2,), 0)),
                            ("NoBerth", lambda: reason(box, (1,), (0,), (2,), 0)),
                            ("NoHanding", lambda: behind(net, (1,), (0,), (2,))),
                            ("NoPlan", lambda: let_in_run(Elder(), net, (), 0)),
                            ("NoPlan", lambda: let_in_lanes(box, [(0, 0, 0)], 0)),
                            ("TooMany", lambda: least(ring_net(6), (), ())),
                            ("TooMany", lambda: worst(Elder(), net, 3)), ("NoRow", lambda: Desk().say("go"))):
            for time in range(2):
                with self.assertRaises(errors.BeatError) as caught:
                    asked()
                self.assertIs(type(caught.exception), getattr(errors, name))


def desk_with(row):
    desk = Desk()
    desk.say(row)
    return desk


class WhatIsToldIsNew(unittest.TestCase):
    """Point 2: each list, and each list within a tuple, is new with each call, also where there is nothing to do."""

    def askers(self):
        net, box, homes, stand = ring_net(6), Box((3, 3)), (2, 2), (0, 0)
        log = run(Nearest(), net, homes, stand, 9)
        stands = stands_of(homes, stand, log)
        lane_log, cames = lane_run(box, (8, 2), (4, 4), (3, 5), 9)
        lane_stands = stands_of((8, 2), (4, 4), lane_log)
        waiting = wait_run(box, (8, 2), (4, 4), 9)
        waits = stands_of((8, 2), (4, 4), waiting)
        yield from (net.ties, box.net().ties, lambda: net.out(0), lambda: net.good(0, 3), lambda: net.good(0, 0))
        yield from (lambda: led(net, homes, stand, (1, 5)), lambda: led(net, homes, stand, (1, 1)))
        for rule in all_rules(2):
            yield from (lambda rule=rule: rule.order(net, homes, stand, 0),
                        lambda rule=rule: rule.order(net, homes, (None, None), 0),
                        lambda rule=rule: run(rule, net, homes, stand, 9),
                        lambda rule=rule: run(rule, net, homes, stand, 0),
                        lambda rule=rule: let_in_run(rule, net, [(0, 0, 2)] * 2, 9),
                        lambda rule=rule: let_in_run(rule, net, [(0, 0, 2)] * 2, 0))
        yield from (lambda: lane_run(box, (8, 2), (4, 4), (3, 5), 9), lambda: lane_run(box, (8,), (None,), (None,), 9))
        yield from (lambda: stands_of(homes, stand, log), lambda: stands_of(homes, stand, []))
        yield from (lambda: led_at(net, homes, stands, log, 1), lambda: led_at(net, homes, stands, log, 0))
        yield from (lambda: waited_at(waits, waiting, 1), lambda: waited_at(waits, waiting, 0))
        yield from (lambda: blame(net, homes, stands, log, 1, 0),
                    lambda: lane_blame(box, (8, 2), lane_stands, cames, lane_log, 1, 0),
                    lambda: wait_blame(box, (8, 2), waits, waiting, 1, 0))
        yield from (lambda: wait_run(box, (8, 2), (4, 4), 9), lambda: wait_run(box, (8, 2), (4, 4), 0))
        yield from (lambda: let_in_lanes(box, [(0, 4, 8)] * 3, 9), lambda: let_in_lanes(box, [], 9))
        yield from (lambda: least(ring_net(4), (2,), (0,)), lambda: least(ring_net(4), (2,), (None,)))

    def lists_of(self, told):
        return [told] if isinstance(told, list) else [part for part in told if isinstance(part, list)]

    def test_each_list(self):
        asked_of = 0
        for asked in self.askers():
            first = asked()
            kept = copy.deepcopy(first)
            again = asked()
            self.assertEqual(again, first)
            self.assertTrue(self.lists_of(again))
            for one, other in zip(self.lists_of(first), self.lists_of(again)):
                self.assertIsNot(one, other)
                other.append("none")
                other.reverse()
            self.assertEqual(first, kept)
            self.assertEqual(asked(), kept)
            asked_of += 1
        self.assertGreater(asked_of, 50)

    def test_nets_are_new(self):
        net, box = ring_net(4), Box((2, 2))
        for asked in (lambda: ring_net(4), lambda: box_net((2, 2)), lambda: words_net(2, 2), box.net,
                      lambda: pairs_net(2, [(0, 1)]), lambda: without(net, 0, 1), lambda: read_net("net 2 0-1")):
            self.assertIsNot(asked(), asked())
            self.assertEqual(net_text(asked()), net_text(asked()))


class WhatIsHandedInStays(unittest.TestCase):
    """Point 2, of all functions that are handed lists."""

    def test_lists_stay(self):
        chance = Random(98)
        net, box = ring_net(9), Box((3, 3))
        for time in range(20):
            plan = random_plan(box.net(), 8, chance)
            homes = tuple(home for beat, start, home in plan)
            kept_plan = copy.deepcopy(plan)
            for rule in all_rules(8):
                entries, log, stands = let_in_run(rule, net, plan, 40)
                kept = copy.deepcopy((log, stands))
                for letter in range(8):
                    home_at(homes, stands, log, letter)
                    led_at(net, homes, stands, log, letter)
                    waited_at(stands, log, letter)
                    others(homes, stands, log, letter)
                    for beat in range(-1, 5):
                        chain = blame(net, homes, stands, log, letter, beat) if not isinstance(rule, InTurn) else None
                        if chain is not None:
                            kept_chain = list(chain)
                            is_chain(homes, stands, log, letter, beat, chain)
                            is_straight(net, homes, stands, log, letter, beat, chain)
                            self.assertEqual(chain, kept_chain)
                stands_of(homes, stands[0], log)
                self.assertEqual((log, stands), kept)
            entries, log, stands, cames = let_in_lanes(box, plan, 40)
            kept = copy.deepcopy((log, stands, cames))
            for letter in range(8):
                for beat in range(-1, 5):
                    lane_blame(box, homes, stands, cames, log, letter, beat)
            self.assertEqual((log, stands, cames), kept)
            self.assertEqual(plan, kept_plan)

    def test_lists_may_be_changed_behind_the_call(self):
        ties = [(0, 1), (1, 0), (1, 2), (2, 1)]
        net = Net(3, ties)
        pairs = [(0, 1), (1, 2)]
        other = pairs_net(3, pairs)
        ties.clear()
        pairs.append((0, 2))
        for one in (net, other):
            self.assertEqual(net_text(one), "net 3 0-1 1-2")
            self.assertEqual((one.out(1), one.far(0, 2), one.good(0, 2)), ([2, 0], 2, [1]))

    def test_nets_and_boxes_stay(self):
        chance = Random(99)
        net, box = ring_net(4), Box((2, 2))
        kept = copy.deepcopy((net.__dict__, box.sides(), box.net().__dict__))
        homes, stand = random_letters(net, 3, chance)
        for rule in all_rules(3):
            run(rule, net, homes, stand, 9)
            round_of(rule, net, homes, stand, 9)
        least(net, homes, stand)
        worst(Elder(), net, 2)
        measure(net, homes, stand)
        is_tree(net)
        is_plain_ring(net)
        is_eager(net, homes, stand, hand(Elder(), net, homes, stand, 0))
        is_stand(net, homes, stand)
        wrong(net, homes, stand, stand)
        elder_bound(net, (1,), (0,), 0)
        wait_hand(box, (3,), (0,))
        mirrored_row(box, (0,), (mirrored(box, (0,), 0),))
        is_berthed(box, (3,), (0,), (1,))
        self.assertEqual((net.__dict__, box.sides(), box.net().__dict__), kept)


if __name__ == "__main__":
    unittest.main()
