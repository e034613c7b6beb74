import unittest

from neverwait.eager import is_eager, led
from neverwait.shapes import box_net, pairs_net, ring_net
from tests.samples import all_homes, all_stands, complete_net, handings_of, mixed_net, one_way_ring, small_nets


class Led(unittest.TestCase):

    def test_who_gets_nearer_is_not(self):
        self.assertEqual(led(ring_net(6), (2, 4), (0, 0), (1, 5)), [])

    def test_who_gets_farther_is(self):
        self.assertEqual(led(ring_net(6), (2, 4), (0, 0), (5, 1)), [0, 1])
        self.assertEqual(led(ring_net(6), (2, 2), (0, 0), (1, 5)), [1])
        self.assertEqual(led(ring_net(6), (2, 2), (0, 0), (5, 1)), [0])

    def test_who_stays_as_far_is(self):
        self.assertEqual(led(ring_net(5), (2, 2), (0, 0), (1, 4)), [1])
        self.assertEqual(led(complete_net(4), (3, 3, 3), (0, 0, 1), (3, 1, 0)), [1, 2])

    def test_not_under_way(self):
        self.assertEqual(led(ring_net(6), (2, 4, 3), (None, 0, None), (None, 1, None)), [1])
        self.assertEqual(led(ring_net(6), (2,), (None,), (None,)), [])
        self.assertEqual(led(ring_net(6), (), (), ()), [])

    def test_who_waits_does_not_go_to_another_house(self):
        self.assertEqual(led(ring_net(6), (2, 2, 2), (0, 0, 0), (1, 0, 5)), [2])

    def test_who_comes_home_is_not(self):
        self.assertEqual(led(mixed_net(), (0, 0), (1, 1), (0, 2)), [1])

    def test_one_way_ties(self):
        self.assertEqual(led(one_way_ring(4), (0, 1), (1, 2), (2, 3)), [])
        self.assertEqual(led(mixed_net(), (0, 4), (3, 3), (4, 1)), [0, 1])

    def test_rising_new_and_alike(self):
        args = (complete_net(5), (4, 4, 4, 4), (0, 0, 0, 1), (1, 2, 4, 0))
        self.assertEqual(led(*args), [0, 1, 3])
        told = led(*args)
        told.clear()
        self.assertEqual(led(*args), [0, 1, 3])
        self.assertIsNot(led(*args), led(*args))
        self.assertIs(type(led(*args)), list)


class Eager(unittest.TestCase):

    def test_none_is_led_about(self):
        self.assertIs(is_eager(ring_net(6), (2, 4), (0, 0), (1, 5)), True)
        self.assertIs(is_eager(ring_net(6), (), (), ()), True)
        self.assertIs(is_eager(ring_net(6), (1,), (None,), (None,)), True)

    def test_the_one_good_tie(self):
        ring = ring_net(6)
        self.assertIs(is_eager(ring, (2, 2), (0, 0), (1, 5)), True)
        self.assertIs(is_eager(ring, (2, 2), (0, 0), (5, 1)), True)
        self.assertIs(is_eager(ring, (2, 4), (0, 0), (5, 1)), False)
        self.assertIs(is_eager(ring, (2,), (0,), (5,)), False)

    def test_taken_by_one_that_is_led_about_itself(self):
        # The letters 0 and 1 hold each other's good tie.
        self.assertIs(is_eager(ring_net(5), (1, 4), (0, 0), (4, 1)), False)
        self.assertIs(is_eager(complete_net(4), (3, 2, 1), (0, 0, 0), (2, 1, 3)), False)

    def test_several_good_ties(self):
        net = box_net((3, 3))
        self.assertEqual(net.good(4, 8), [5, 7])
        self.assertIs(is_eager(net, (8, 2, 6), (4, 4, 4), (1, 5, 7)), True)
        self.assertIs(is_eager(net, (8, 2), (4, 4), (1, 5)), False)
        self.assertIs(is_eager(net, (8, 6), (4, 4), (1, 7)), False)
        self.assertIs(is_eager(net, (8, 2, 0), (4, 4, 4), (1, 5, 7)), False)
        self.assertIs(is_eager(net, (8, 8, 8), (4, 4, 4), (5, 7, 3)), True)

    def test_a_taker_from_another_house_does_not_count(self):
        ring = ring_net(6)
        self.assertIs(is_eager(ring, (1, 1), (0, 2), (5, 1)), False)
        self.assertIs(is_eager(ring, (1, 2), (0, 0), (5, 1)), True)

    def test_one_way_ties(self):
        self.assertIs(is_eager(mixed_net(), (0, 0), (3, 3), (4, 1)), True)
        self.assertIs(is_eager(mixed_net(), (0, 4), (3, 3), (4, 1)), False)
        self.assertIs(is_eager(pairs_net(3, [(0, 1), (1, 2)]), (2, 2), (1, 1), (2, 0)), True)

    def test_all_handings_of_small_nets(self):
        seen = {True: 0, False: 0}
        for net in small_nets():
            for homes in all_homes(net, 2):
                for stand in all_stands(net, homes):
                    for handing in handings_of(net, stand):
                        right = eager_by_the_words(net, homes, stand, handing)
                        self.assertIs(is_eager(net, homes, stand, handing), right)
                        seen[right] += 1
        self.assertGreater(min(seen.values()), 100)


def eager_by_the_words(net, homes, stand, handing):
    """Point 10, letter by letter."""
    letters = [i for i in range(len(homes)) if stand[i] is not None]
    about = [i for i in letters if net.far(handing[i], homes[i]) >= net.far(stand[i], homes[i])]
    for i in about:
        for other in net.out(stand[i]):
            if net.far(other, homes[i]) < net.far(stand[i], homes[i]):
                takers = [j for j in letters if (stand[j], handing[j]) == (stand[i], other)]
                if not takers or takers[0] in about:
                    return False
    return True


if __name__ == "__main__":
    unittest.main()
