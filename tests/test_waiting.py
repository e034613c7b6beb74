import unittest
from random import Random

from neverwait.blame import wait_blame
from neverwait.boxes import Box
from neverwait.chains import is_straight
from neverwait.logs import home_at, led_at, stands_of, waited_at
from neverwait.measures import others
from neverwait.waiting import wait_hand, wait_run
from tests.samples import crowded_letters, random_letters, waiting_log

ROW = Box((4,))
FLAT = Box((3, 3))
BOXES = [Box(sides) for sides in ((2,), (8,), (3, 3), (4, 4), (8, 4), (2, 2, 2), (3, 3, 3), (2, 2, 2, 2, 2))]


class WaitHand(unittest.TestCase):

    def test_each_goes_where_it_wishes(self):
        self.assertEqual(wait_hand(FLAT, (8,), (0,)), (1,))
        self.assertEqual(wait_hand(FLAT, (6,), (0,)), (3,))
        self.assertEqual(wait_hand(FLAT, (5, 3, 7, 1), (4, 4, 4, 4)), (5, 3, 7, 1))

    def test_several_letters_with_one_wish(self):
        self.assertEqual(wait_hand(FLAT, (5, 8, 2), (4, 4, 4)), (5, 4, 4))
        self.assertEqual(wait_hand(FLAT, (8, 5, 3, 0), (4, 4, 4, 4)), (5, 4, 3, 4))
        self.assertEqual(wait_hand(FLAT, (3, 5, 0, 8), (4, 4, 4, 4)), (3, 5, 4, 4))

    def test_none_is_led_about_where_its_wish_is_taken(self):
        # Another good tie, to 7, is free; but the letter 1 wishes for 5.
        self.assertEqual(wait_hand(FLAT, (5, 8), (4, 4)), (5, 4))

    def test_more_letters_at_a_house_than_ties_lead_out(self):
        self.assertEqual(wait_hand(ROW, (3,) * 5, (0,) * 5), (1, 0, 0, 0, 0))
        self.assertEqual(wait_hand(ROW, (3, 0, 3, 0, 3), (1,) * 5), (2, 0, 1, 1, 1))
        self.assertEqual(wait_hand(ROW, (0,) * 16, (3,) * 16), (2,) + (3,) * 15)

    def test_one_house_is_not_another(self):
        # Two houses' letters wish for the same house, along unlike ties.
        self.assertEqual(wait_hand(ROW, (1, 1, 1, 1), (0, 2, 0, 2)), (1, 1, 0, 2))
        self.assertEqual(wait_hand(FLAT, (4, 4, 4, 4), (1, 3, 5, 7)), (4, 4, 4, 4))

    def test_letters_not_under_way(self):
        self.assertEqual(wait_hand(ROW, (3, 3, 3), (None, 0, 0)), (None, 1, 0))
        self.assertEqual(wait_hand(ROW, (3, 3, 3), (0, None, 0)), (1, None, 0))
        self.assertEqual(wait_hand(ROW, (3, 3), (None, None)), (None, None))
        self.assertEqual(wait_hand(ROW, (), ()), ())

    def test_by_the_words(self):
        chance = Random(50)
        for box in BOXES * 20:
            net = box.net()
            homes, stand = chance.choice((crowded_letters, random_letters))(net, 16, chance)
            handing = wait_hand(box, homes, stand)
            self.assertIs(type(handing), tuple)
            for letter, house in enumerate(stand):
                if house is None:
                    self.assertIsNone(handing[letter])
                    continue
                wish = box.wish(house, homes[letter])
                ahead = [one for one in range(letter) if stand[one] == house
                         and box.wish(house, homes[one]) == wish]
                self.assertEqual(handing[letter], house if ahead else wish)


class WaitRun(unittest.TestCase):

    def test_by_hand(self):
        self.assertEqual(wait_run(ROW, (2, 2), (0, 0), 500), [(1, 0), (2, 1), (None, 2)])
        self.assertEqual(wait_run(ROW, (3, 0, 3), (1, 2, 1), 500), [(2, 1, 1), (3, 0, 2), (None, None, 3)])

    def test_a_log_that_is_cut(self):
        whole = [(1, 0), (2, 1), (None, 2)]
        for most in range(6):
            self.assertEqual(wait_run(ROW, (2, 2), (0, 0), most), whole[:most])

    def test_none_under_way_and_no_letters(self):
        for most in (0, 1, 500):
            self.assertEqual(wait_run(ROW, (), (), most), [])
            self.assertEqual(wait_run(ROW, (2, 2), (None, None), most), [])

    def test_letters_not_under_way(self):
        self.assertEqual(wait_run(ROW, (2, 2, 0), (None, 0, None), 9), [(None, 1, None), (None, 2, None)])

    def test_new_with_each_call(self):
        for homes, stand in (((2, 2), (0, 0)), ((2, 2), (None, None)), ((), ())):
            first = wait_run(ROW, homes, stand, 9)
            self.assertIs(type(first), list)
            told = wait_run(ROW, homes, stand, 9)
            self.assertIsNot(told, first)
            told.append("none")
            self.assertEqual(wait_run(ROW, homes, stand, 9), first)

    def test_beat_by_beat(self):
        chance = Random(51)
        for box in BOXES * 6:
            homes, stand = chance.choice((crowded_letters, random_letters))(box.net(), 12, chance)
            log = wait_run(box, homes, stand, 500)
            self.assertEqual(waiting_log(box, homes, stand), (stands_of(homes, stand, log), log))
            for beat, here in enumerate(stands_of(homes, stand, log)[:-1]):
                self.assertEqual(log[beat], wait_hand(box, homes, here))

    def test_how_many_handings_a_letter_needs(self):
        chance = Random(52)
        waits = 0
        for box in BOXES * 8:
            net = box.net()
            homes, stand = crowded_letters(net, 16, chance)
            log = wait_run(box, homes, stand, 500)
            stands = stands_of(homes, stand, log)
            self.assertEqual(stands[-1], (None,) * 16)
            for letter in range(16):
                waited = waited_at(stands, log, letter)
                done = home_at(homes, stands, log, letter)
                self.assertEqual(done, net.far(stand[letter], homes[letter]) + len(waited))
                self.assertLessEqual(len(waited), others(homes, stands, log, letter))
                self.assertEqual(led_at(net, homes, stands, log, letter), [])
                self.check_chains(box, homes, stands, log, letter, waited)
                waits += len(waited)
        self.assertGreater(waits, 1000)

    def check_chains(self, box, homes, stands, log, letter, waited):
        """Each beat at which it waits has a straight chain, and these end with unlike letters."""
        chains = [wait_blame(box, homes, stands, log, letter, beat) for beat in waited]
        for beat, chain in zip(waited, chains):
            self.assertIs(is_straight(box.net(), homes, stands, log, letter, beat, chain), True)
        ends = [chain[-1] for chain in chains]
        self.assertEqual(len(set(ends)), len(ends))
        self.assertNotIn(letter, ends)

    def test_no_tie_is_used_twice(self):
        chance = Random(53)
        for box in BOXES * 3:
            homes, stand = crowded_letters(box.net(), 16, chance)
            log = wait_run(box, homes, stand, 500)
            for here, handing in zip(stands_of(homes, stand, log), log):
                used = [(house, goes) for house, goes in zip(here, handing) if house is not None and goes != house]
                self.assertEqual(len(set(used)), len(used))
                self.assertTrue(all(goes in box.net().out(house) for house, goes in used))


if __name__ == "__main__":
    unittest.main()
