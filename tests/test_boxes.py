import unittest

from neverwait.boxes import Box
from neverwait.errors import NoHouse, NoShape, NoTie
from neverwait.nets import Net
from neverwait.nettexts import net_text
from neverwait.shapes import box_net
from tests.samples import Hostile, all_places, all_sides, odd_numbers, odd_things, wrong_sides


def no_houses(many):
    """Things that are no house of a box with so many."""
    return odd_numbers() + [many, many + 1, -many, str(many - 1), (many - 1,)]


class Making(unittest.TestCase):

    def test_sides_at_the_edges(self):
        for sides in ((2,), (8,), (8, 4), (4, 8), (2, 2, 2, 2, 2), (3, 3, 3), (5, 6), (2, 4, 4)):
            self.assertEqual(Box(sides).sides(), sides)

    def test_just_beyond_and_other_kinds(self):
        for sides in wrong_sides():
            with self.assertRaises(NoShape):
                Box(sides)

    def test_net_and_sides(self):
        for sides, houses in all_sides():
            box = Box(sides)
            self.assertEqual(net_text(box.net()), net_text(box_net(sides)))
            self.assertIs(type(box.net()), Net)
            self.assertIs(type(box.sides()), tuple)
            self.assertEqual(box.sides(), sides)

    def test_the_net_is_its_askers_own(self):
        box = Box((3, 2))
        told = box.net()
        told.out_lists[0].clear()
        told.tie_list.clear()
        self.assertEqual(box.net().ties(), box_net((3, 2)).ties())
        self.assertEqual(box.way(0, 1), 0)

    def test_boxes_keep_their_own_sides(self):
        first, second = Box((3, 2)), Box((2, 3))
        self.assertEqual((first.sides(), second.sides()), ((3, 2), (2, 3)))
        self.assertEqual((first.place(2), second.place(2)), ((2, 0), (0, 1)))


class Places(unittest.TestCase):

    def test_by_hand(self):
        box = Box((3, 2, 4))
        self.assertEqual(box.place(0), (0, 0, 0))
        self.assertEqual(box.place(5), (2, 1, 0))
        self.assertEqual(box.place(23), (2, 1, 3))
        self.assertEqual(box.house((1, 0, 2)), 1 + 3 * (0 + 2 * 2))

    def test_there_and_back(self):
        for sides, houses in all_sides():
            box = Box(sides)
            for house, place in enumerate(all_places(sides)):
                self.assertEqual(box.place(house), place)
                self.assertIs(type(box.place(house)), tuple)
                self.assertEqual(box.house(place), house)

    def test_what_is_no_house(self):
        for sides in ((2,), (3, 2), (8, 4)):
            box = Box(sides)
            for thing in no_houses(box.net().many()):
                with self.assertRaises(NoHouse):
                    box.place(thing)

    def test_tuples_that_are_no_place(self):
        box = Box((3, 2))
        for place in ((), (0,), (0, 0, 0), (3, 0), (0, 2), (2, 2), (-1, 0), (0, -1), (True, 0), (0, True), (False, 0),
                      (None, 0), (0, None), ("0", 0), (0, "1"), ((0,), 0), ((0, 0),), ([0], 0), (10 ** 59, 0)):
            with self.assertRaises(NoHouse):
                box.house(place)
        for thing in odd_things():
            for place in ((thing, 0), (0, thing), (thing,)):
                with self.assertRaises(NoHouse):
                    box.house(place)

    def test_what_is_no_tuple_is_no_place(self):
        for thing in odd_things() + [[0, 0], 0, "00"]:
            with self.assertRaises(NoHouse):
                Box((3, 2)).house(thing)


class Ways(unittest.TestCase):

    def test_by_hand(self):
        box = Box((3, 2, 4))
        self.assertEqual(box.way(0, 1), 0)
        self.assertEqual(box.way(5, 4), 0)
        self.assertEqual(box.way(4, 1), 1)
        self.assertEqual(box.way(5, 11), 2)

    def test_all_pairs(self):
        for sides, houses in all_sides():
            box = Box(sides)
            places = all_places(sides)
            for one in range(houses):
                for other in range(houses):
                    steps = [abs(x - y) for x, y in zip(places[one], places[other])]
                    if sum(steps) == 1:
                        self.assertEqual(box.way(one, other), steps.index(1))
                    else:
                        with self.assertRaises(NoTie):
                            box.way(one, other)

    def test_what_is_no_house(self):
        for sides in ((2,), (3, 2), (8, 4)):
            box = Box(sides)
            for thing in no_houses(box.net().many()):
                for one, other in ((thing, 0), (0, thing), (1, thing), (thing, 1), (thing, thing)):
                    with self.assertRaises(NoTie):
                        box.way(one, other)
        with self.assertRaises(NoTie):
            Box((3, 2)).way(Hostile(), Hostile())


class PhasesAndWishes(unittest.TestCase):

    def test_by_hand(self):
        box = Box((3, 3))
        self.assertEqual([box.phase(4, home) for home in range(9)], [0, 1, 0, 0, None, 0, 0, 1, 0])
        self.assertEqual([box.wish(4, home) for home in range(9)], [3, 1, 5, 3, None, 5, 3, 7, 5])
        self.assertEqual([box.wish(0, home) for home in range(9)], [None, 1, 1, 3, 1, 1, 3, 1, 1])
        self.assertEqual(Box((8, 4)).wish(31, 7), 23)
        self.assertEqual(Box((2, 2, 2)).phase(0, 4), 2)

    def test_all_pairs(self):
        for sides, houses in all_sides():
            box = Box(sides)
            places = all_places(sides)
            for house in range(houses):
                for home in range(houses):
                    unlike = [k for k in range(len(sides)) if places[house][k] != places[home][k]]
                    if house == home:
                        self.assertIsNone(box.phase(house, home))
                        self.assertIsNone(box.wish(house, home))
                    else:
                        aim = list(places[house])
                        aim[unlike[0]] += 1 if places[home][unlike[0]] > aim[unlike[0]] else -1
                        self.assertEqual(box.phase(house, home), unlike[0])
                        self.assertEqual(box.wish(house, home), places.index(tuple(aim)))

    def test_what_is_no_house_at_either_place(self):
        for sides in ((2,), (3, 2), (8, 4)):
            box = Box(sides)
            for thing in no_houses(box.net().many()):
                for house, home in ((thing, 0), (0, thing), (1, thing), (thing, thing)):
                    with self.assertRaises(NoHouse):
                        box.phase(house, home)
                    with self.assertRaises(NoHouse):
                        box.wish(house, home)


if __name__ == "__main__":
    unittest.main()
