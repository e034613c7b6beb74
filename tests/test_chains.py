import copy
import unittest
from random import Random

from neverwait.boxes import Box
from neverwait.chains import is_chain, is_straight
from neverwait.logs import stands_of
from neverwait.nets import Net
from neverwait.rules import Elder
from neverwait.runs import run
from neverwait.shapes import box_net, ring_net
from tests.samples import (complete_net, crowded_letters, eager_rules, mixed_net, odd_things, random_letters, tree_log,
                           waiting_log)

TREE, HOMES, STANDS, LOG = tree_log()

# A waiting log along the houses 0, 1, 2: all three letters begin at 0, their homes are 2.
ROW = box_net((3,))
WAITING = [(1, 0, 0), (2, 1, 0), (None, 2, 1), (None, None, 2)]
WAITING_STANDS = [(0, 0, 0), (1, 0, 0), (None, 1, 0), (None, None, 1), (None, None, None)]

# Homes, stands and a log along the houses 0 to 4: the letter 0 comes home to 2, where the letter 2 stands then.
THROUGH = ((2, 0, 1), [(1, 1, 3), (None, None, 2), (None, None, None)], [(2, 0, 2), (None, None, 1)])


def chain_of_two(thing):
    """Of the letter 2, at beat 0."""
    return is_chain(HOMES, STANDS, LOG, 2, 0, thing)


class IsChain(unittest.TestCase):

    def test_the_log_is_one(self):
        self.assertEqual(run(Elder(), TREE, HOMES, STANDS[0], 99), LOG)
        self.assertEqual(stands_of(HOMES, STANDS[0], LOG), STANDS)

    def test_chains(self):
        self.assertIs(chain_of_two([1, 0, 0]), True)
        self.assertIs(is_chain(HOMES, STANDS, LOG, 1, 1, [0, 0]), True)
        self.assertIs(is_chain(HOMES, STANDS, LOG, 2, 3, [1]), True)

    def test_also_of_a_letter_that_is_not_led_about(self):
        self.assertIs(is_chain(HOMES, STANDS, LOG, 1, 0, [2, 2, 2, 2, 2, 2]), True)
        self.assertIs(is_chain(HOMES, STANDS, LOG, 0, 1, [1, 1, 1]), True)
        self.assertIs(is_chain(HOMES, STANDS, LOG, 1, 3, [2, 2, 2]), True)

    def test_the_letter_itself_may_come_later(self):
        # The letter 2 stands at 2 at beat 3, and so does the letter 1, which came there from 6.
        self.assertIs(is_chain(HOMES, STANDS, LOG, 0, 1, [1, 1, 2, 2, 2]), True)
        self.assertIs(is_chain(HOMES, STANDS, LOG, 1, 0, [2, 2, 2, 1]), True)
        self.assertIs(is_chain(HOMES, STANDS, LOG, 2, 0, [1, 1, 1, 2, 2, 2]), True)

    def test_an_empty_list(self):
        self.assertIs(chain_of_two([]), False)

    def test_the_letter_itself_first(self):
        self.assertIs(chain_of_two([2, 2, 2, 2, 2, 2]), False)
        self.assertIs(is_chain(HOMES, STANDS, LOG, 1, 3, [1]), False)

    def test_one_at_another_house(self):
        self.assertIs(chain_of_two([0, 0, 0]), False)
        self.assertIs(chain_of_two([1, 2, 0]), False)

    def test_one_that_does_not_go_to_where_the_next_one_stands(self):
        self.assertIs(chain_of_two([1, 1, 0]), False)
        self.assertIs(chain_of_two([1, 0, 1, 1]), False)

    def test_one_ahead_of_the_last_may_come_home(self):
        self.assertIs(is_chain(*THROUGH, 1, 0, [0]), True)
        self.assertIs(is_chain(*THROUGH, 1, 0, [0, 2]), True)

    def test_one_that_is_home_is_not_handed_on_from_there(self):
        for thing in ([0, 0], [0, 0, 2], [0, 2, 2], [0, 2, 0], [0, 1], [0, 1, 2]):
            self.assertIs(is_chain(*THROUGH, 1, 0, thing), False)

    def test_through_several_homes(self):
        # The letter 2 comes home to 1, where the letter 3 is let in then.
        homes = (2, 0, 1, 0)
        log = [(2, 0, 2, None), (None, None, 1, None), (None, None, None, 0)]
        stands = [(1, 1, 3, None), (None, None, 2, None), (None, None, None, 1), (None, None, None, None)]
        for thing, right in (([0], True), ([0, 2], True), ([0, 2, 3], True), ([0, 3], False), ([0, 2, 2], False),
                             ([0, 2, 0], False), ([0, 2, 3, 3], False), ([2, 3], False), ([3], False)):
            self.assertIs(is_chain(homes, stands, log, 1, 0, thing), right)

    def test_a_last_one_that_does_not_come_home(self):
        self.assertIs(chain_of_two([1]), False)
        self.assertIs(chain_of_two([1, 0]), False)
        self.assertIs(chain_of_two([1, 1, 1]), False)

    def test_beyond_the_end(self):
        self.assertIs(chain_of_two([1, 0, 0, 0]), False)
        self.assertIs(is_chain(HOMES, STANDS, LOG, 1, 0, [2, 2, 2, 2, 2, 2, 2]), False)
        self.assertIs(is_chain(HOMES, STANDS[:3], LOG[:2], 2, 0, [1, 0]), False)
        self.assertIs(is_chain(HOMES, STANDS[:3], LOG[:2], 2, 0, [1, 0, 0]), False)

    def test_a_number_that_is_no_letter(self):
        for number in (-1, -2, -3, -4, 3, 4, 99, 10 ** 59):
            for at in range(3):
                thing = [1, 0, 0]
                thing[at] = number
                self.assertIs(chain_of_two(thing), False)
        self.assertIs(chain_of_two([-2, -3, -3]), False)
        self.assertIs(chain_of_two([1, 0, 0, 3]), False)

    def test_a_letter_that_is_none_or_not_under_way(self):
        for letter in (-1, -2, -3, 3, 4, 10 ** 59):
            self.assertIs(is_chain(HOMES, STANDS, LOG, letter, 0, [1, 0, 0]), False)
        for letter in (0, 1):
            for beat in (3, 4, 5):
                self.assertIs(is_chain(HOMES, STANDS, LOG, 0, beat, [1]), False)
        self.assertIs(is_chain(HOMES, STANDS, LOG, 1, 4, [2, 2]), False)
        # A letter that is not let in yet, beside others that are nowhere.
        stands, log = [(1, None, None), (None, None, None)], [(2, None, None)]
        self.assertIs(is_chain((2, 2, 2), stands, log, 1, 0, [2]), False)
        self.assertIs(is_chain((2, 2, 2), stands, log, 1, 0, [0]), False)

    def test_beats_below_0_and_behind_the_log(self):
        for beat in (-1, -3, -6, -7, 6, 7, 10 ** 59):
            for thing in ([1, 0, 0], [1], [0, 0], []):
                for letter in (1, 2):
                    self.assertIs(is_chain(HOMES, STANDS, LOG, letter, beat, thing), False)
        self.assertIs(is_chain(HOMES, [STANDS[0]], [], 2, 0, [1, 0, 0]), False)

    def test_things_of_other_kinds(self):
        for thing in odd_things() + [(1, 0, 0), {1: 0}, "100"]:
            self.assertIs(chain_of_two(thing), False)
            self.assertIs(chain_of_two([1, 0, thing]), False)
        self.assertIs(chain_of_two([True, False, False]), False)

    def test_waiting_logs(self):
        self.assertEqual(waiting_log(Box((3,)), (2, 2, 2), (0, 0, 0)), (WAITING_STANDS, WAITING))
        for letter, beat, thing, right in ((1, 0, [0, 0], True), (2, 0, [0, 0], True), (2, 1, [1, 1], True),
                                           (2, 0, [1, 1], False), (2, 0, [1], False), (2, 0, [1, 1, 1], False),
                                           (0, 0, [1, 1, 1], False), (2, 0, [0], False), (1, 0, [2, 2], False)):
            self.assertIs(is_chain((2, 2, 2), WAITING_STANDS, WAITING, letter, beat, thing), right)

    def test_a_letter_let_in_on_the_way(self):
        # The letter 2 is let in at house 2 ahead of beat 1, and is gone along with from there.
        homes = (3, 3, 3)
        log = [(2, 0, None), (1, 1, 3)]
        stands = [(1, 1, None), (2, 0, 2), (1, 1, None)]
        self.assertIs(is_chain(homes, stands, log, 1, 0, [0, 2]), True)
        self.assertIs(is_chain(homes, stands_of(homes, stands[0], log), log, 1, 0, [0, 2]), False)

    def test_all_lists_by_the_words(self):
        chance = Random(23)
        found = 0
        things = lists_up_to(4)
        for net in (ring_net(4), box_net((3, 2)), ring_net(3), mixed_net()) * 25:
            homes, stand = random_letters(net, 4, chance)
            log = run(chance.choice(eager_rules(4)), net, homes, stand, 7)
            stands = stands_of(homes, stand, log)
            for letter in range(-1, 5):
                for beat in range(-1, len(log) + 2):
                    right = chains_by_the_words(homes, stands, log, letter, beat)
                    for thing in things:
                        self.assertIs(is_chain(homes, stands, log, letter, beat, thing), tuple(thing) in right)
                    found += len(right)
        self.assertGreater(found, 100)

    def test_what_is_handed_in_stays(self):
        kept = copy.deepcopy((STANDS, LOG))
        thing = [1, 0, 0]
        for time in range(2):
            self.assertIs(chain_of_two(thing), True)
            self.assertIs(is_straight(TREE, HOMES, STANDS, LOG, 2, 0, thing), True)
        self.assertEqual((thing, (STANDS, LOG)), ([1, 0, 0], kept))


class IsStraight(unittest.TestCase):

    def test_where_the_letter_goes(self):
        # The letter 2 goes to 0, from where it is 4 ties to the home of the letter 0.
        self.assertIs(is_straight(TREE, HOMES, STANDS, LOG, 2, 0, [1, 0, 0]), True)
        self.assertIs(is_straight(TREE, HOMES, STANDS, LOG, 1, 1, [0, 0]), True)
        self.assertIs(is_straight(TREE, HOMES, STANDS, LOG, 2, 3, [1]), True)
        self.assertIs(is_straight(TREE, HOMES, STANDS, LOG, 1, 0, [2, 2, 2, 2, 2, 2]), False)
        self.assertIs(is_straight(TREE, HOMES, STANDS, LOG, 1, 3, [2, 2, 2]), False)

    def test_just_as_far_and_one_less(self):
        net = box_net((2, 2))
        log = [(1, 2), (3, 3)]
        # From 2 it is one tie to 3, and the chain has two letters.
        self.assertIs(is_straight(net, (3, 3), stands_of((3, 3), (0, 0), log), log, 1, 0, [0, 0]), False)
        ring = ring_net(5)
        log = [(1, 4), (2, 3), (None, 2)]
        # From 4 it is two ties to 2.
        self.assertEqual(ring.far(4, 2), 2)
        self.assertIs(is_straight(ring, (2, 2), stands_of((2, 2), (0, 0), log), log, 1, 0, [0, 0]), True)

    def test_far_is_from_the_letter_to_the_home(self):
        net = Net(6, [(house, (house + 1) % 6) for house in range(6)] + [(0, 3), (3, 0)])
        log = [(3, 1), (4, 2), (5, 3)]
        self.assertEqual((net.far(1, 5), net.far(5, 1)), (4, 2))
        self.assertIs(is_straight(net, (5, 4), stands_of((5, 4), (0, 0), log), log, 1, 0, [0, 0, 0]), True)

    def test_where_it_waits(self):
        self.assertIs(is_straight(ROW, (2, 2, 2), WAITING_STANDS, WAITING, 1, 0, [0, 0]), True)
        self.assertIs(is_straight(ROW, (2, 2, 2), WAITING_STANDS, WAITING, 2, 1, [1, 1]), True)
        # The letter 1 waits at 1, two ties from the home of the letter 0, which needs four handings.
        log = [(0, 1), (1, 2), (2, 3), (3, None)]
        stands = stands_of((3, 3), (1, 1), log)
        self.assertIs(is_chain((3, 3), stands, log, 1, 0, [0, 0, 0, 0]), True)
        self.assertIs(is_straight(box_net((4,)), (3, 3), stands, log, 1, 0, [0, 0, 0, 0]), False)

    def test_through_a_home(self):
        # The letter 1 goes to 0: along the row of houses it is one tie from there to 1, where the chain ends.
        self.assertIs(is_straight(box_net((5,)), *THROUGH, 1, 0, [0, 2]), False)
        # Let in at 2, the letter 2 goes home to 3 instead, which is three ties from 0.
        stands, log = [(1, 1, None), (None, None, 2), (None, None, None)], [(2, 0, None), (None, None, 3)]
        self.assertIs(is_chain((2, 0, 3), stands, log, 1, 0, [0, 2]), True)
        self.assertIs(is_straight(box_net((5,)), (2, 0, 3), stands, log, 1, 0, [0, 2]), True)
        # On a ring of four it is one tie.
        self.assertIs(is_straight(ring_net(4), (2, 0, 3), stands, log, 1, 0, [0, 2]), False)

    def test_what_is_no_chain_is_not_straight(self):
        for thing in ([], [1], [2, 2], [-2, -3, -3], [1, 0, 3]):
            self.assertIs(is_straight(TREE, HOMES, STANDS, LOG, 2, 0, thing), False)
        for letter, beat in ((2, -1), (2, 6), (3, 0), (-1, 0)):
            self.assertIs(is_straight(TREE, HOMES, STANDS, LOG, letter, beat, [1, 0, 0]), False)

    def test_by_the_words(self):
        chance = Random(24)
        told = {True: 0, False: 0}
        for net in (ring_net(4), box_net((3, 2)), ring_net(3), mixed_net()) * 40:
            homes, stand = random_letters(net, 4, chance)
            log = run(chance.choice(eager_rules(4)), net, homes, stand, 7)
            self.check(net, homes, stands_of(homes, stand, log), log, told)
        for sides in ((4,), (3, 2), (2, 2, 2)) * 4:
            homes, stand = crowded_letters(box_net(sides), 4, chance)
            stands, log = waiting_log(Box(sides), homes, stand)
            self.check(box_net(sides), homes, stands, log, told)
        self.assertGreater(min(told.values()), 50)

    def test_straight_chains_of_one_letter_end_with_unlike_letters(self):
        chance = Random(38)
        several = 0
        for net in (ring_net(4), ring_net(5), box_net((3, 2)), complete_net(4), mixed_net()) * 40:
            homes, stand = random_letters(net, 6, chance)
            log = run(chance.choice(eager_rules(6)), net, homes, stand, 7)
            stands = stands_of(homes, stand, log)
            for letter in range(6):
                ends = []
                for beat in range(len(log)):
                    chains = chains_by_the_words(homes, stands, log, letter, beat)
                    ends.append({chain[-1] for chain in chains
                                 if is_straight(net, homes, stands, log, letter, beat, list(chain))})
                several += len([end for end in ends if end]) > 1
                self.assertEqual(sum(len(end) for end in ends), len(set().union(*ends)))
                self.assertNotIn(letter, set().union(*ends))
        self.assertGreater(several, 20)

    def check(self, net, homes, stands, log, told):
        for letter in range(4):
            for beat in range(len(log)):
                for chain in chains_by_the_words(homes, stands, log, letter, beat):
                    right = net.far(log[beat][letter], homes[chain[-1]]) >= len(chain)
                    self.assertIs(is_straight(net, homes, stands, log, letter, beat, list(chain)), right)
                    told[right] += 1


def lists_up_to(length):
    """All lists of the numbers from -1 to 4, up to a length."""
    found = [[]]
    for at in range(length):
        found += [row + [number] for row in found if len(row) == at for number in range(-1, 5)]
    return found


def chains_by_the_words(homes, stands, log, letter, beat):
    """Point 18: all chains, built one letter after the other."""
    if not 0 <= beat < len(log) or not 0 <= letter < len(homes) or stands[beat][letter] is None:
        return set()
    found = set()
    begun = [(other,) for other in range(len(homes)) if other != letter and stands[beat][other] == stands[beat][letter]]
    while begun:
        going = begun.pop()
        at = beat + len(going) - 1
        if at >= len(log):
            continue
        goes = log[at][going[-1]]
        if goes == homes[going[-1]]:
            found.add(going)
        if goes != stands[at][going[-1]]:
            begun += [going + (other,) for other in range(len(homes)) if stands[at + 1][other] == goes]
    return found


if __name__ == "__main__":
    unittest.main()
