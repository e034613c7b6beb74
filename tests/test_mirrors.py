import unittest
from itertools import combinations
from random import Random

from neverwait.blame import lane_blame
from neverwait.boxes import Box
from neverwait.chains import is_chain, is_straight
from neverwait.errors import NoBerth
from neverwait.lanes import berth, is_berthed, lane_hand, reason
from neverwait.logs import home_at, led_at, stands_of
from neverwait.mirrors import mirrored, mirrored_row
from neverwait.runs import lane_run
from tests.samples import all_places, all_sides, crowded_berth, random_letters

FLAT = Box((3, 2))
BOXES = [Box(sides) for sides in ((2,), (8,), (3, 3), (8, 4), (2, 2, 2), (2, 3, 4), (3, 3, 3), (2, 2, 2, 2, 2))]


def all_ways(box):
    """All sorted tuples of ways of a box, the empty one first, all of them last."""
    ways = range(len(box.sides()))
    return [row for length in range(len(ways) + 1) for row in combinations(ways, length)]


class Mirrored(unittest.TestCase):

    def test_by_hand(self):
        # The houses 0 1 2 in the first row, 3 4 5 in the second.
        for ways, houses in (((), [0, 1, 2, 3, 4, 5]), ((0,), [2, 1, 0, 5, 4, 3]), ((1,), [3, 4, 5, 0, 1, 2]),
                             ((0, 1), [5, 4, 3, 2, 1, 0])):
            self.assertEqual([mirrored(FLAT, ways, house) for house in range(6)], houses)

    def test_one_way_of_three(self):
        box = Box((2, 3, 4))
        house = box.house((1, 0, 1))
        for ways, place in (((), (1, 0, 1)), ((0,), (0, 0, 1)), ((1,), (1, 2, 1)), ((2,), (1, 0, 2)),
                            ((0, 2), (0, 0, 2)), ((0, 1, 2), (0, 2, 2))):
            self.assertEqual(mirrored(box, ways, house), box.house(place))

    def test_no_way_is_the_house_itself(self):
        for box in BOXES:
            for house in range(box.net().many()):
                self.assertEqual(mirrored(box, (), house), house)

    def test_all_ways_turn_the_numbers_round(self):
        for box in BOXES:
            many = box.net().many()
            ways = tuple(range(len(box.sides())))
            for house in range(many):
                self.assertEqual(mirrored(box, ways, house), many - 1 - house)

    def test_places_of_all_boxes(self):
        for sides, many in all_sides():
            box = Box(sides)
            places = all_places(sides)
            for ways in all_ways(box):
                told = [mirrored(box, ways, house) for house in range(many)]
                self.assertEqual(sorted(told), list(range(many)))
                for house, place in enumerate(places):
                    right = tuple(sides[k] - 1 - x if k in ways else x for k, x in enumerate(place))
                    self.assertEqual(places[told[house]], right)
                    self.assertIs(type(told[house]), int)

    def test_twice_is_the_house_itself(self):
        for box in BOXES:
            for ways in all_ways(box):
                for house in range(box.net().many()):
                    self.assertEqual(mirrored(box, ways, mirrored(box, ways, house)), house)

    def test_ties_stay_ties_of_their_way(self):
        for box in BOXES:
            for ways in all_ways(box):
                for one, other in box.net().ties():
                    there = box.way(mirrored(box, ways, one), mirrored(box, ways, other))
                    self.assertEqual(there, box.way(one, other))


class MirroredRow(unittest.TestCase):

    def test_rows_of_any_length(self):
        self.assertEqual(mirrored_row(FLAT, (0,), ()), ())
        self.assertEqual(mirrored_row(FLAT, (0,), (0,)), (2,))
        self.assertEqual(mirrored_row(FLAT, (0,), (0, 1, 2, 3, 4, 5, 0, 0)), (2, 1, 0, 5, 4, 3, 2, 2))
        self.assertEqual(mirrored_row(FLAT, (0, 1), (3,) * 20), (2,) * 20)

    def test_none_stays(self):
        self.assertEqual(mirrored_row(FLAT, (1,), (None,)), (None,))
        self.assertEqual(mirrored_row(FLAT, (1,), (None, 0, None, 5)), (None, 3, None, 2))
        self.assertEqual(mirrored_row(FLAT, (), (None, 0, None, 5)), (None, 0, None, 5))

    def test_house_by_house(self):
        chance = Random(95)
        for box in BOXES:
            for ways in all_ways(box):
                row = tuple(chance.choice([None, *range(box.net().many())]) for at in range(chance.randrange(20)))
                told = mirrored_row(box, ways, row)
                self.assertIs(type(told), tuple)
                self.assertEqual(told, tuple(None if house is None else mirrored(box, ways, house) for house in row))
                self.assertEqual(mirrored_row(box, ways, told), row)


class RunsByLanes(unittest.TestCase):

    def starts(self):
        """Boxes, homes, stands and what letters came by."""
        chance = Random(96)
        for box in BOXES * 2:
            homes, stand = random_letters(box.net(), 9, chance)
            try:
                yield box, homes, stand, berth(box, homes, stand)
            except NoBerth:
                continue
        for sides, house in (((3, 3), 4), ((3, 3, 3), 13), ((2, 2, 2, 2, 2), 5)):
            box = Box(sides)
            homes, came = crowded_berth(box, house, chance)
            yield box, homes, (house,) * len(came), came

    def mirrors(self):
        for box, homes, stand, came in self.starts():
            for ways in all_ways(box):
                rows = [mirrored_row(box, ways, row) for row in (homes, stand, came)]
                yield box, ways, (homes, stand, came), tuple(rows)

    def test_the_handing_is_mirrored(self):
        unlike = 0
        for box, ways, start, other in self.mirrors():
            self.assertIs(is_berthed(box, *other), True)
            handing = lane_hand(box, *start)
            self.assertEqual(lane_hand(box, *other), mirrored_row(box, ways, handing))
            unlike += mirrored_row(box, ways, handing) != handing
        self.assertGreater(unlike, 50)

    def test_what_is_no_berth_is_none_mirrored(self):
        homes, stand, came = (7, 8), (4, 4), (3, 3)
        box = Box((3, 3))
        for ways in all_ways(box):
            rows = [mirrored_row(box, ways, row) for row in (homes, stand, came)]
            self.assertIs(is_berthed(box, *rows), False)

    def test_runs_are_mirrored_and_all_else_stays(self):
        about = 0
        for box, ways, (homes, stand, came), other in self.mirrors():
            net = box.net()
            log, cames = lane_run(box, homes, stand, came, 500)
            stands = stands_of(homes, stand, log)
            other_log, other_cames = lane_run(box, *other, 500)
            self.assertEqual(other_log, [mirrored_row(box, ways, handing) for handing in log])
            self.assertEqual(other_cames, [mirrored_row(box, ways, row) for row in cames])
            other_stands = stands_of(other[0], other[1], other_log)
            self.assertEqual(other_stands, [mirrored_row(box, ways, row) for row in stands])
            for letter in range(len(homes)):
                self.assertEqual(home_at(other[0], other_stands, other_log, letter),
                                 home_at(homes, stands, log, letter))
                beats = led_at(net, homes, stands, log, letter)
                self.assertEqual(led_at(net, other[0], other_stands, other_log, letter), beats)
                for beat in beats:
                    self.check_beat(box, homes, (stands, cames, log), other[0],
                                    (other_stands, other_cames, other_log), letter, beat)
                about += len(beats)
        self.assertGreater(about, 50)

    def check_beat(self, box, homes, told, other_homes, other, letter, beat):
        """Reasons and chains of a letter led about stay."""
        stands, cames, log = told
        other_stands, other_cames, other_log = other
        why = reason(box, homes, stands[beat], cames[beat], letter)
        self.assertIsNotNone(why)
        self.assertEqual(reason(box, other_homes, other_stands[beat], other_cames[beat], letter), why)
        chain = lane_blame(box, homes, stands, cames, log, letter, beat)
        self.assertEqual(lane_blame(box, other_homes, *other, letter, beat), chain)
        self.assertIs(is_chain(other_homes, other_stands, other_log, letter, beat, chain), True)
        self.assertIs(is_straight(box.net(), other_homes, other_stands, other_log, letter, beat, chain), True)


if __name__ == "__main__":
    unittest.main()
