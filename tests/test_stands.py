import unittest

from neverwait.errors import NoHanding
from neverwait.nets import Net
from neverwait.shapes import pairs_net, ring_net
from neverwait.stands import behind, is_stand, under_way, wrong
from tests.samples import (Hostile, all_homes, all_rows, all_stands, complete_net, handings_of, mixed_net, odd_things,
                           one_way_ring, small_nets)


class Stands(unittest.TestCase):

    def test_ordinary(self):
        ring = ring_net(5)
        for thing in ((0, 1), (0, 0), (None, 1), (0, None), (None, None), (4, 3)):
            self.assertIs(is_stand(ring, (2, 2), thing), True)
        self.assertIs(is_stand(ring, (), ()), True)

    def test_a_letter_at_its_home(self):
        ring = ring_net(5)
        self.assertIs(is_stand(ring, (2, 3), (2, 0)), False)
        self.assertIs(is_stand(ring, (2, 3), (0, 3)), False)
        self.assertIs(is_stand(ring, (2, 3), (3, 2)), True)
        self.assertIs(is_stand(ring, (0, 3), (0, None)), False)

    def test_too_many_at_a_house(self):
        ring = ring_net(5)
        self.assertIs(is_stand(ring, (1, 2, 3), (0, 0, None)), True)
        self.assertIs(is_stand(ring, (1, 2, 3), (0, 0, 0)), False)
        self.assertIs(is_stand(ring, (1, 1, 1), (4, 4, 4)), False)
        self.assertIs(is_stand(one_way_ring(5), (1, 2), (0, 0)), False)
        self.assertIs(is_stand(mixed_net(), (4, 4), (1, 1)), True)
        self.assertIs(is_stand(mixed_net(), (4, 4), (0, 0)), False)

    def test_what_is_no_house(self):
        ring = ring_net(5)
        for thing in (True, False, -1, 5, "0", [0], (0,), Hostile(), {}, b"0"):
            self.assertIs(is_stand(ring, (2, 3), (0, thing)), False)
            self.assertIs(is_stand(ring, (2, 3), (thing, 0)), False)

    def test_a_thing_more_or_less_or_no_tuple(self):
        ring = ring_net(5)
        for thing in ((0,), (0, 1, 1), (), [0, 1], (None, None, None), (None,), "01", {0: 1, 1: 0}, b"ab"):
            self.assertIs(is_stand(ring, (2, 3), thing), False)
        self.assertIs(is_stand(ring, (), []), False)
        self.assertIs(is_stand(ring, (), (None,)), False)

    def test_anything(self):
        for thing in odd_things():
            for homes in ((), (2, 3), (0,)):
                self.assertIs(is_stand(ring_net(5), homes, thing), False)

    def test_all_rows_of_small_nets(self):
        for net in small_nets():
            for homes in all_homes(net, 2):
                right = all_stands(net, homes)
                for row in all_rows(net, 2):
                    self.assertIs(is_stand(net, homes, row), row in right)

    def test_under_way_is_a_new_list(self):
        self.assertEqual(under_way((None, 3, 0, None)), [1, 2])
        self.assertEqual(under_way(()), [])


class Wrong(unittest.TestCase):
    ring = ring_net(5)
    homes = (2, 2, 4, 3)
    stand = (0, 0, None, 1)

    def wrong(self, thing):
        return wrong(self.ring, self.homes, self.stand, thing)

    def test_nothing(self):
        self.assertIsNone(self.wrong((1, 4, None, 0)))
        self.assertIsNone(self.wrong((4, 1, None, 2)))
        self.assertIsNone(wrong(self.ring, (), (), ()))
        self.assertIsNone(wrong(self.ring, (1, 1), (None, None), (None, None)))

    def test_two_houses_may_hand_to_one(self):
        self.assertIsNone(wrong(self.ring, (3, 3), (0, 2), (1, 1)))

    def test_row(self):
        for thing in odd_things() + [(), (1, 4, None), (1, 4, None, 0, None), [1, 4, None, 0], (1,)]:
            self.assertEqual(self.wrong(thing), ("row",))
        self.assertEqual(wrong(self.ring, (), (), []), ("row",))
        self.assertEqual(wrong(self.ring, (), (), (None,)), ("row",))

    def test_none(self):
        self.assertEqual(self.wrong((1, 4, 0, 0)), ("none", 2))
        for thing in odd_things():
            if thing is not None:
                self.assertEqual(self.wrong((1, 4, thing, 0)), ("none", 2))
        self.assertEqual(wrong(self.ring, (0,), (None,), (0,)), ("none", 0))

    def test_tie(self):
        self.assertEqual(self.wrong((2, 4, None, 0)), ("tie", 0))
        self.assertEqual(self.wrong((0, 4, None, 0)), ("tie", 0))
        self.assertEqual(self.wrong((1, 4, None, 1)), ("tie", 3))
        self.assertEqual(self.wrong((1, 4, None, 5)), ("tie", 3))
        for thing in odd_things() + [(), (1,)]:
            self.assertEqual(self.wrong((thing, 4, None, 0)), ("tie", 0))
            self.assertEqual(self.wrong((1, thing, None, 0)), ("tie", 1))
        self.assertEqual(wrong(one_way_ring(3), (0,), (1,), (0,)), ("tie", 0))

    def test_true_is_no_house_though_it_is_like_one(self):
        self.assertEqual(self.wrong((True, 4, None, 0)), ("tie", 0))
        self.assertEqual(self.wrong((1, 4, None, False)), ("tie", 3))

    def test_twice(self):
        self.assertEqual(self.wrong((1, 1, None, 0)), ("twice", 0, 1))
        self.assertEqual(self.wrong((4, 4, None, 0)), ("twice", 0, 1))
        self.assertEqual(wrong(self.ring, (2, 2, 3), (0, 4, 0), (4, 0, 4)), ("twice", 0, 2))

    def test_of_twice_the_first_letter_ahead(self):
        net = complete_net(4)
        self.assertEqual(wrong(net, (3, 3, 3), (0, 0, 0), (1, 2, 2)), ("twice", 1, 2))
        self.assertEqual(wrong(net, (3, 3, 3), (0, 0, 0), (2, 1, 2)), ("twice", 0, 2))
        self.assertEqual(wrong(net, (3, 3, 3), (0, 0, 0), (2, 2, 2)), ("twice", 0, 1))
        self.assertEqual(wrong(net, (3, 3, 3, 3), (1, 0, 0, 0), (2, 2, 1, 2)), ("twice", 1, 3))

    def test_the_first_that_is_due(self):
        self.assertEqual(self.wrong((1, 1, 3, 3)), ("twice", 0, 1))
        self.assertEqual(self.wrong((1, 4, 3, 3)), ("none", 2))
        self.assertEqual(self.wrong((3, 3, 3, 3)), ("tie", 0))
        self.assertEqual(self.wrong((1, 3, 3, 3)), ("tie", 1))
        self.assertEqual(self.wrong((1, 3, 3)), ("row",))
        self.assertEqual(self.wrong([3, 3, 3, 3]), ("row",))
        # What stands behind the first fault is not looked at.
        self.assertEqual(self.wrong((3, Hostile(), Hostile(), Hostile())), ("tie", 0))

    def test_all_rows_of_small_nets(self):
        for net in small_nets():
            homes = (0, net.many() - 1)
            for stand in all_stands(net, homes):
                right = handings_of(net, stand)
                for row in all_rows(net, 2):
                    self.assertIs(wrong(net, homes, stand, row) is None, row in right)


class Behind(unittest.TestCase):

    def test_each_stands_where_it_went_and_who_came_home_does_not(self):
        ring = ring_net(5)
        self.assertEqual(behind(ring, (2, 2, 4), (0, 0, None), (1, 4, None)), (1, 4, None))
        self.assertEqual(behind(ring, (1, 2, 4), (0, 0, None), (1, 4, None)), (None, 4, None))
        self.assertEqual(behind(ring, (1, 4), (0, 0), (1, 4)), (None, None))
        self.assertEqual(behind(ring, (0, 3), (1, 1), (0, 2)), (None, 2))
        self.assertEqual(behind(ring, (2, 2), (0, 2 + 1), (1, 2)), (1, None))
        self.assertEqual(behind(ring, (), (), ()), ())
        self.assertEqual(behind(ring, (1,), (None,), (None,)), (None,))

    def test_no_handing(self):
        ring = ring_net(5)
        homes, stand = (2, 2, 4), (0, 0, None)
        for thing in odd_things() + [(1, 1, None), (1, 4, 4), (1, 4), (1, 4, None, None), [1, 4, None], (True, 4, None),
                                     (1, None, None), (None, None, None), (1, 2, None), (0, 1, None)]:
            with self.assertRaises(NoHanding):
                behind(ring, homes, stand, thing)
        for thing in odd_things():
            with self.assertRaises(NoHanding):
                behind(ring, homes, stand, (1, thing, None))
        with self.assertRaises(NoHanding):
            behind(ring, (), (), [])

    def test_no_letter_is_lost_or_made_and_behind_is_a_stand(self):
        for net in small_nets():
            for homes in all_homes(net, 2):
                for stand in all_stands(net, homes):
                    for handing in handings_of(net, stand):
                        self.check_behind(net, homes, stand, handing)

    def check_behind(self, net, homes, stand, handing):
        told = behind(net, homes, stand, handing)
        self.assertIs(type(told), tuple)
        self.assertIs(is_stand(net, homes, told), True)
        for home, goes, house in zip(homes, handing, told):
            self.assertEqual(house, None if goes == home else goes)
        self.assertEqual(told, behind(net, homes, stand, handing))

    def test_full_houses_go_to_a_stand(self):
        net = complete_net(5)
        homes = (4,) * 12
        stand = (0,) * 4 + (1,) * 4 + (2,) * 4
        handing = (1, 2, 3, 4, 0, 2, 3, 4, 0, 1, 3, 4)
        self.assertIs(is_stand(net, homes, stand), True)
        self.assertEqual(behind(net, homes, stand, handing), (1, 2, 3, None, 0, 2, 3, None, 0, 1, 3, None))

    def test_one_way_ties(self):
        net = Net(4, [(0, 1), (1, 2), (2, 3), (3, 0), (0, 2), (2, 0)])
        self.assertEqual(behind(net, (3, 3), (0, 0), (2, 1)), (2, 1))
        with self.assertRaises(NoHanding):
            behind(net, (3, 3), (1, 0), (0, 1))
        path = pairs_net(3, [(0, 1), (1, 2)])
        self.assertEqual(behind(path, (2, 0), (1, 1), (2, 0)), (None, None))


if __name__ == "__main__":
    unittest.main()
