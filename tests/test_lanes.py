import unittest
from itertools import product
from random import Random

from neverwait.boxes import Box
from neverwait.eager import led
from neverwait.errors import NoBerth
from neverwait.lanes import berth, is_berthed, lane_hand, reason
from neverwait.stands import behind, wrong
from tests.samples import Hostile, all_homes, all_sides, all_stands, crowded_berth, odd_things, random_letters

FLAT = Box((3, 3))
# At house 4, in the middle, the ties 3 and 5 are of way 0, the ties 1 and 7 of way 1.
DEEP = Box((3, 3, 3))
# At house 13, in the middle: 12 and 14 of way 0, 10 and 16 of way 1, 4 and 22 of way 2.
TIES = {sides: Box(sides).net().ties() for sides, houses in all_sides()}


class IsBerthed(unittest.TestCase):

    def test_lanes_no_greater_than_the_phase(self):
        # To 8 the phase is 0, to 7 it is 1.
        for came, home, right in ((3, 8, True), (5, 8, True), (1, 8, False), (7, 8, False),
                                  (3, 7, True), (5, 7, True), (1, 7, True), (7, 7, True)):
            self.assertIs(is_berthed(FLAT, (home,), (4,), (came,)), right)

    def test_two_letters_that_came_by_one_tie(self):
        self.assertIs(is_berthed(FLAT, (7, 7), (4, 4), (3, 5)), True)
        self.assertIs(is_berthed(FLAT, (7, 7), (4, 4), (3, 3)), False)
        self.assertIs(is_berthed(FLAT, (7, 8, 7), (4, 4, 4), (5, 3, 5)), False)
        self.assertIs(is_berthed(FLAT, (7, 8, 7, 7), (4, 4, 4, 4), (5, 3, 1, 7)), True)

    def test_from_one_house_to_unlike_ones(self):
        self.assertIs(is_berthed(FLAT, (7, 8), (3, 5), (4, 4)), True)

    def test_houses_that_are_not_tied(self):
        for came in (0, 2, 4, 6, 8, 9, -1, -6, 10 ** 59):
            self.assertIs(is_berthed(FLAT, (7,), (4,), (came,)), False)

    def test_not_under_way(self):
        self.assertIs(is_berthed(FLAT, (7, 7), (4, None), (3, None)), True)
        self.assertIs(is_berthed(FLAT, (7, 7), (4, None), (3, 4)), False)
        self.assertIs(is_berthed(FLAT, (7, 7), (4, None), (3, False)), False)
        self.assertIs(is_berthed(FLAT, (7, 7), (4, 4), (3, None)), False)
        self.assertIs(is_berthed(FLAT, (7,), (None,), (None,)), True)
        self.assertIs(is_berthed(FLAT, (), (), ()), True)

    def test_tuples_of_another_length(self):
        for came in ((), (3,), (3, 5, None), (3, 5, 1), (3, 5, 1, 7)):
            self.assertIs(is_berthed(FLAT, (7, 7), (4, 4), came), False)
        self.assertIs(is_berthed(FLAT, (), (), (None,)), False)

    def test_things_of_any_kind(self):
        for thing in odd_things():
            self.assertIs(is_berthed(FLAT, (7, 7, 7), (4, 4, 4), (thing, 5, 3)), False)
            self.assertIs(is_berthed(FLAT, (7, 7, 7), (4, 4, 4), (3, thing, 5)), False)
            self.assertIs(is_berthed(FLAT, (7, 7, 7), (4, 4, 4), (3, 5, thing)), False)
            self.assertIs(is_berthed(FLAT, (7,), (4,), thing), False)
            if thing is not None:
                self.assertIs(is_berthed(FLAT, (7, 7), (4, None), (3, thing)), False)
        self.assertIs(is_berthed(FLAT, (7, 7), (4, 4), (Hostile(), Hostile())), False)
        self.assertIs(is_berthed(FLAT, (7, 7), (4, 4), [3, 5]), False)
        self.assertIs(is_berthed(Box((2, 2)), (2,), (0,), (True,)), False)
        self.assertIs(is_berthed(Box((2, 2)), (2,), (0,), (1,)), True)
        self.assertIs(is_berthed(Box((2, 2)), (2,), (1,), (False,)), False)

    def test_all_tuples_of_small_boxes(self):
        for sides in ((3,), (2, 2), (3, 2)):
            box = Box(sides)
            net = box.net()
            for homes in all_homes(net, 2):
                for stand in all_stands(net, homes):
                    for came in product([None] + list(range(-1, net.many() + 1)), repeat=2):
                        right = berthed_by_the_words(box, homes, stand, came)
                        self.assertIs(is_berthed(box, homes, stand, came), right)


class Berth(unittest.TestCase):

    def test_the_greatest_way_no_greater_than_the_phase(self):
        self.assertEqual(berth(FLAT, (8,), (4,)), (3,))
        self.assertEqual(berth(FLAT, (7,), (4,)), (1,))
        self.assertEqual(berth(DEEP, (22,), (13,)), (4,))
        self.assertEqual(berth(DEEP, (16,), (13,)), (10,))
        self.assertEqual(berth(DEEP, (12,), (13,)), (12,))

    def test_of_two_the_lesser_house(self):
        self.assertEqual(berth(FLAT, (7, 7, 7, 7), (4, 4, 4, 4)), (1, 7, 3, 5))
        self.assertEqual(berth(FLAT, (8, 7, 1, 5), (4, 4, 4, 4)), (3, 1, 7, 5))
        self.assertEqual(berth(FLAT, (8, 0), (4, 4)), (3, 5))

    def test_at_the_rim(self):
        self.assertEqual(berth(FLAT, (8, 6), (0, 0)), (1, 3))
        self.assertEqual(berth(FLAT, (6, 8), (0, 0)), (3, 1))
        self.assertEqual(berth(FLAT, (6, 6), (0, 0)), (3, 1))

    def test_no_tie_left(self):
        for homes, stand in (((8, 1), (0, 0)), ((8, 8, 8), (4, 4, 4)), ((8, 7, 3, 6), (4, 4, 4, 4)),
                             ((8, 6, 8), (0, None, 0))):
            with self.assertRaises(NoBerth):
                berth(FLAT, homes, stand)

    def test_not_under_way(self):
        self.assertEqual(berth(FLAT, (7, 8, 7), (None, 4, None)), (None, 3, None))
        self.assertEqual(berth(FLAT, (7,), (None,)), (None,))
        self.assertEqual(berth(FLAT, (), ()), ())

    def test_what_is_told_is_berthed(self):
        chance = Random(13)
        told = {True: 0, False: 0}
        for sides in ((2,), (8,), (3, 3), (8, 4), (2, 2, 2), (2, 3, 4), (2, 2, 2, 2, 2)) * 30:
            box = Box(sides)
            homes, stand = random_letters(box.net(), chance.randrange(17), chance)
            right = berth_by_the_words(box, homes, stand)
            told[right is None] += 1
            if right is None:
                with self.assertRaises(NoBerth):
                    berth(box, homes, stand)
            else:
                came = berth(box, homes, stand)
                self.assertIs(type(came), tuple)
                self.assertEqual(came, right)
                self.assertIs(is_berthed(box, homes, stand, came), True)
        self.assertGreater(min(told.values()), 20)


class LaneHand(unittest.TestCase):

    def test_one_letter_goes_where_it_wishes(self):
        for came in (3, 5):
            self.assertEqual(lane_hand(FLAT, (8,), (4,), (came,)), (5,))
        for came in (1, 3, 5, 7):
            self.assertEqual(lane_hand(FLAT, (7,), (4,), (came,)), (7,))
            self.assertIsNone(reason(FLAT, (7,), (4,), (came,), 0))

    def test_the_first_by_number_of_the_lane(self):
        # Both wish for 5; the other one goes the other way, also where it came by that tie.
        self.assertEqual(lane_hand(FLAT, (8, 2), (4, 4), (3, 5)), (5, 3))
        self.assertEqual(lane_hand(FLAT, (8, 2), (4, 4), (5, 3)), (5, 3))
        self.assertEqual(reason(FLAT, (8, 2), (4, 4), (5, 3), 1), 0)
        self.assertIsNone(reason(FLAT, (8, 2), (4, 4), (5, 3), 0))

    def test_the_lane_ahead_of_a_lesser_lane(self):
        # The letter 1 is of lane 1, the letter 0 of lane 0: both wish for 7.
        self.assertEqual(lane_hand(FLAT, (7, 7), (4, 4), (3, 1)), (3, 7))
        self.assertEqual(lane_hand(FLAT, (7, 7), (4, 4), (5, 7)), (5, 7))
        self.assertEqual(reason(FLAT, (7, 7), (4, 4), (3, 1), 0), 1)

    def test_the_first_of_a_lesser_lane(self):
        self.assertEqual(lane_hand(FLAT, (7, 7), (4, 4), (3, 5)), (7, 5))
        self.assertEqual(lane_hand(FLAT, (1, 7), (4, 4), (3, 5)), (1, 7))
        self.assertEqual(reason(FLAT, (7, 7), (4, 4), (3, 5), 1), 0)

    def test_the_wish_ahead_of_keeping_to_the_lane(self):
        # The letter 0, of lane 1 and phase 2, keeps to its lane only behind the letter 1, which wishes for that tie.
        self.assertEqual(lane_hand(DEEP, (22, 16, 22), (13, 13, 13), (16, 10, 4)), (10, 16, 22))
        # The letter 1 takes 14 by its wish; so the letter 0, who came by it, has the other tie of the way.
        self.assertEqual(lane_hand(DEEP, (22, 14, 22), (13, 13, 13), (14, 12, 4)), (12, 14, 22))

    def test_reasons_through_several_letters(self):
        homes, stand, came = (16, 22, 22), (13, 13, 13), (12, 16, 4)
        # The letter 2 takes 22, so 1 keeps to 16, for which 0 wishes.
        self.assertEqual(lane_hand(DEEP, homes, stand, came), (12, 16, 22))
        self.assertEqual([reason(DEEP, homes, stand, came, letter) for letter in range(3)], [2, 2, None])
        homes, came = (16, 10, 10), (12, 16, 10)
        # The letter 1 takes 10; the letter 2 who came by it has 16, for which 0 wishes.
        self.assertEqual(lane_hand(DEEP, homes, stand, came), (12, 10, 16))
        self.assertEqual([reason(DEEP, homes, stand, came, letter) for letter in range(3)], [1, None, 1])

    def test_reasons_through_three_letters(self):
        box = Box((2, 2, 2, 2))
        # At house 0 the ties are 1, 2, 4, 8, of the ways 0 to 3: each keeps to the tie for which one other wishes.
        homes, stand, came = (2, 4, 8, 8), (0, 0, 0, 0), (1, 2, 4, 8)
        self.assertEqual(lane_hand(box, homes, stand, came), (1, 2, 4, 8))
        self.assertEqual([reason(box, homes, stand, came, letter) for letter in range(4)], [3, 3, 3, None])

    def test_not_under_way(self):
        self.assertEqual(lane_hand(FLAT, (7, 8, 7), (None, 4, None), (None, 3, None)), (None, 5, None))
        self.assertEqual(lane_hand(FLAT, (7,), (None,), (None,)), (None,))
        self.assertEqual(lane_hand(FLAT, (), (), ()), ())
        self.assertIsNone(reason(FLAT, (7, 8), (None, 4), (None, 3), 0))

    def test_no_letter_has_no_reason(self):
        for letter in (-1, -2, 2, 3):
            self.assertIsNone(reason(FLAT, (8, 2), (4, 4), (5, 3), letter))

    def test_a_side_of_two(self):
        box = Box((2,))
        self.assertEqual(lane_hand(box, (1, 0), (0, 1), (1, 0)), (1, 0))
        self.assertEqual(lane_hand(Box((2, 2)), (3, 2), (0, 0), (1, 2)), (1, 2))

    def test_where_the_stand_is_not_berthed(self):
        cames = [(), (3,), (3, 3), (3, 1), (3, None), (None, None), (3, 4), (3, 0), (3, 5, None), (3, -1), (3, 99)]
        cames += [row for thing in odd_things() for row in ((thing, 3), (3, thing))]
        for came in cames:
            with self.assertRaises(NoBerth):
                lane_hand(FLAT, (7, 8), (4, 4), came)
            for letter in (0, 1):
                with self.assertRaises(NoBerth):
                    reason(FLAT, (7, 8), (4, 4), came, letter)
        for came in ((4,), (), (None, None), (False,)):
            with self.assertRaises(NoBerth):
                lane_hand(FLAT, (7,), (None,), came)
            with self.assertRaises(NoBerth):
                reason(FLAT, (7,), (None,), came, 0)


class Promises(unittest.TestCase):

    def check(self, box, net, homes, stand, came):
        handing = lane_hand(box, homes, stand, came)
        self.assertIs(type(handing), tuple)
        self.assertEqual(handing, lanes_by_the_words(box, homes, stand, came))
        self.assertIsNone(wrong(net, homes, stand, handing))
        later = behind(net, homes, stand, handing)
        came_from = tuple(None if there is None else here for here, there in zip(stand, later))
        self.assertIs(is_berthed(box, homes, later, came_from), True)
        about = led(net, homes, stand, handing)
        for letter in range(len(homes)):
            why = reason(box, homes, stand, came, letter)
            if letter in about:
                self.check_reason(box, net, homes, stand, handing, letter, why)
            else:
                self.assertIsNone(why)
                if stand[letter] is not None:
                    self.assertEqual(handing[letter], box.wish(stand[letter], homes[letter]))

    def check_reason(self, box, net, homes, stand, handing, letter, why):
        self.assertEqual(why, reason_by_the_words(box, homes, stand, handing, letter))
        self.assertEqual(net.far(handing[letter], homes[letter]), net.far(stand[letter], homes[letter]) + 1)
        self.assertEqual(stand[why], stand[letter])
        self.assertLess(net.far(handing[why], homes[why]), net.far(stand[why], homes[why]))
        self.assertGreaterEqual(box.way(stand[why], handing[why]), box.phase(stand[letter], homes[letter]))

    def test_all_stands_of_small_boxes(self):
        for sides in ((3,), (2, 2), (3, 2)):
            box = Box(sides)
            net = box.net()
            for homes in all_homes(net, 2):
                for stand in all_stands(net, homes):
                    choices = [[None] if house is None else net.out(house) for house in stand]
                    for came in product(*choices):
                        if berthed_by_the_words(box, homes, stand, came):
                            self.check(box, net, homes, stand, came)

    def test_crowded_houses(self):
        chance = Random(14)
        seen = 0
        for sides, house in (((3, 3), 4), ((3, 3, 3), 13), ((2, 2, 2, 2), 0), ((3, 2, 3), 4), ((2, 2, 2, 2, 2), 31)):
            box = Box(sides)
            net = box.net()
            for time in range(300):
                homes, came = crowded_berth(box, house, chance)
                self.check(box, net, homes, (house,) * len(came), came)
                seen += 1
        self.assertEqual(seen, 1500)

    def test_from_stand_to_stand(self):
        chance = Random(15)
        for sides in ((8,), (3, 3), (8, 4), (2, 3, 4), (3, 3, 3), (2, 2, 2, 2, 2)) * 5:
            box = Box(sides)
            net = box.net()
            homes, stand = random_letters(net, 10, chance)
            came = berth_by_the_words(box, homes, stand)
            while came is not None and any(house is not None for house in stand):
                self.check(box, net, homes, stand, came)
                handing = lane_hand(box, homes, stand, came)
                later = behind(net, homes, stand, handing)
                came = tuple(None if there is None else here for here, there in zip(stand, later))
                stand = later

    def test_told_alike_and_the_box_stays(self):
        args = DEEP, (16, 22, 22), (13, 13, 13), (12, 16, 4)
        for time in range(3):
            self.assertEqual(lane_hand(*args), (12, 16, 22))
            self.assertEqual(reason(*args, 0), 2)
            self.assertEqual(berth(*args[:3]), (10, 4, 22))
        self.assertEqual(DEEP.sides(), (3, 3, 3))


def berthed_by_the_words(box, homes, stand, came):
    """Point 13, of a tuple of whole numbers and None."""
    for letter, house in enumerate(stand):
        if house is None:
            if came[letter] is not None:
                return False
        elif (house, came[letter]) not in TIES[box.sides()]:
            return False
        elif box.way(house, came[letter]) > box.phase(house, homes[letter]):
            return False
    by = [(house, other) for house, other in zip(stand, came) if house is not None]
    return len(set(by)) == len(by)


def berth_by_the_words(box, homes, stand):
    """Point 13, by a list of the ties that none came by yet; None where there is none."""
    left = list(TIES[box.sides()])
    came = []
    for house, home in zip(stand, homes):
        if house is None:
            came.append(None)
            continue
        fit = [(-box.way(*tie), tie[1]) for tie in left
               if tie[0] == house and box.way(*tie) <= box.phase(house, home)]
        if not fit:
            return None
        came.append(min(fit)[1])
        left.remove((house, min(fit)[1]))
    return tuple(came)


def lanes_by_the_words(box, homes, stand, came):
    """Point 14, step by step, for all houses."""
    goes = {}
    for house in sorted(set(stand) - {None}):
        here = [i for i in range(len(stand)) if stand[i] == house]
        lane = {i: box.way(house, came[i]) for i in here}
        phase = {i: box.phase(house, homes[i]) for i in here}
        wish = {i: box.wish(house, homes[i]) for i in here}
        for k in range(len(box.sides()) - 1, -1, -1):
            ties = [other for one, other in TIES[box.sides()] if one == house and box.way(one, other) == k]
            owner = {}
            for tie in ties:
                for i in here:
                    if tie not in owner and lane[i] == k and phase[i] == k and wish[i] == tie:
                        owner[tie] = i
            for i in here:
                if lane[i] == k and i not in goes and i not in owner.values():
                    others = [tie for tie in ties if tie != came[i]]
                    owner[came[i] if came[i] not in owner else others[0]] = i
            for tie in ties:
                for i in here:
                    if tie not in owner and lane[i] < k and phase[i] == k and wish[i] == tie:
                        owner[tie] = i
            for tie, i in owner.items():
                assert i not in goes
                goes[i] = tie
    return tuple(goes.get(i) for i in range(len(stand)))


def reason_by_the_words(box, homes, stand, handing, letter):
    """Point 15, of a letter led about."""
    house = stand[letter]
    wish = box.wish(house, homes[letter])
    took = [i for i in range(len(stand)) if (stand[i], handing[i]) == (house, wish)][0]
    if handing[took] == box.wish(house, homes[took]):
        return took
    return reason_by_the_words(box, homes, stand, handing, took)


if __name__ == "__main__":
    unittest.main()
