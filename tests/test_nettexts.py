import unittest

from neverwait.errors import NoText
from neverwait.nets import Net
from neverwait.nettexts import net_text, read_net
from neverwait.shapes import box_net, pairs_net, ring_net, words_net
from tests.samples import mixed_net, odd_things, one_way_ring, sample_nets

MIXED = "net 5 0-1 1>2 2>3 3>1 3-4"
SIGNS = " 0123456789->nte+_.,\n\t\u00b2\u0663\u00a0"


class Writing(unittest.TestCase):

    def test_two_way_ties(self):
        self.assertEqual(net_text(pairs_net(2, [(1, 0)])), "net 2 0-1")
        self.assertEqual(net_text(ring_net(4)), "net 4 0-1 0-3 1-2 2-3")
        self.assertEqual(net_text(box_net((2, 2))), "net 4 0-1 0-2 1-3 2-3")

    def test_one_way_ties(self):
        self.assertEqual(net_text(one_way_ring(3)), "net 3 0>1 1>2 2>0")

    def test_both(self):
        self.assertEqual(net_text(mixed_net()), MIXED)
        self.assertEqual(net_text(Net(3, [(2, 1), (1, 2), (0, 2), (2, 0)])), "net 3 0-2 1-2")

    def test_ties_are_sorted_by_number_not_by_figures(self):
        text = net_text(ring_net(12))
        self.assertEqual(text, "net 12 0-1 0-11 1-2 2-3 3-4 4-5 5-6 6-7 7-8 8-9 9-10 10-11")
        self.assertEqual(net_text(one_way_ring(11)), "net 11 0>1 1>2 2>3 3>4 4>5 5>6 6>7 7>8 8>9 9>10 10>0")


class Reading(unittest.TestCase):

    def refused(self, thing):
        with self.assertRaises(NoText):
            read_net(thing)

    def test_what_was_written_is_read(self):
        for net in sample_nets() + [ring_net(32), words_net(5, 2), words_net(2, 5), one_way_ring(32)]:
            read = read_net(net_text(net))
            self.assertIsInstance(read, Net)
            self.assertEqual((read.many(), read.ties()), (net.many(), net.ties()))
            self.assertIsNot(read_net(net_text(net)), read)

    def test_one_sign_more_less_or_other_is_another_net_or_refused(self):
        for text in (MIXED, "net 3 0>1 1>2 2>0", "net 2 0-1", net_text(ring_net(12))):
            for at in range(len(text) + 1):
                self.check_read_back(text[:at] + text[at + 1:])
                for sign in SIGNS:
                    self.check_read_back(text[:at] + sign + text[at:])
                    self.check_read_back(text[:at] + sign + text[at + 1:])

    def check_read_back(self, text):
        try:
            net = read_net(text)
        except NoText:
            return
        self.assertEqual(net_text(net), text)

    def test_words_too_many_too_few_or_at_another_place(self):
        words = MIXED.split(" ")
        for at in range(len(words)):
            self.refused(" ".join(words[:at] + words[at + 1:]))
            self.refused(" ".join(words[:at + 1] + words[at:]))
            for other in range(at):
                exchanged = list(words)
                exchanged[at], exchanged[other] = words[other], words[at]
                self.refused(" ".join(exchanged))

    def test_blanks(self):
        for text in ("", " ", "net", "net ", "net 2", "net 2 ", " net 2 0-1", "net  2 0-1", "net 2  0-1",
                     "net 2 0-1 ", "net 2 0-1\n", "net\t2 0-1", "net 2\n0-1", "net 2 0 -1", "net 2 0- 1", "net2 0-1",
                     "net 3 0-10-2 1-2"):
            self.refused(text)

    def test_the_first_word(self):
        for text in ("Net 2 0-1", "NET 2 0-1", "nett 2 0-1", "ne 2 0-1", "box 2 0-1", "2 0-1", "net net 2 0-1"):
            self.refused(text)

    def test_needless_noughts_and_signs(self):
        for text in ("net 02 0-1", "net 2 00-1", "net 2 0-01", "net +2 0-1", "net 2 +0-1", "net 2 -0-1", "net 2 0--1",
                     "net 2 0-1.", "net 2.0 0-1", "net 2 0_0-1", "net 2 0-1_", "net 0x2 0-1", "net -2 0-1",
                     "net 2 0>-1", "net 2 0->1", "net 2 0>>1", "net 2 0=1", "net 2 0-", "net 2 -1", "net 2 -",
                     "net 2 01", "net two 0-1", "net 3 0>1 1>2 02>0", "net 3 0>1 1>2 2>00"):
            self.refused(text)

    def test_signs_that_are_no_plain_figures(self):
        for two in ("\u00b2", "\u0662", "\uff12", "\u2461", "\u4e8c", "\u096f", "\u00bd"):
            self.refused("net " + two + " 0-1")
            self.refused("net 3 0-1 0-" + two + " 1-2")
            self.refused("net 3 0-1 0-2 1-" + two)
            self.refused("net 1" + two + " 0-1")

    def test_a_two_way_tie_must_be_one_word_the_lesser_first(self):
        self.refused("net 2 0>1 1>0")
        self.refused("net 2 1-0")
        self.refused("net 2 0-1 0>1")
        self.refused("net 2 0-1 1>0")
        self.refused("net 2 0-1 1-0")
        self.refused("net 2 0-1 0-1")
        self.refused("net 5 0-1 1>2 2>3 3>1 3>4 4>3")
        self.refused("net 5 0-1 1>2 2>3 3>1 4-3")

    def test_ties_out_of_order(self):
        self.refused("net 3 1>2 0>1 2>0")
        self.refused("net 3 0>1 2>0 1>2")
        self.refused("net 3 0-2 0-1 1-2")
        self.refused("net 12 0-1 0-11 1-2 10-11 2-3 3-4 4-5 5-6 6-7 7-8 8-9 9-10")

    def test_what_is_no_net(self):
        for text in ("net 1", "net 0", "net 3 0-1", "net 3 0>1 1>2", "net 2 0-0", "net 2 0-2", "net 4 0-1 2-3",
                     "net 33 " + " ".join([f"{house}-{house + 1}" for house in range(32)]),
                     "net 10 " + " ".join([f"0-{leaf}" for leaf in range(1, 10)]),
                     "net 3 0>1 0>2 1>2 2>0", "net 2 0-" + "9" * 60, "net " + "9" * 60 + " 0-1",
                     "net " + "2" * 9999 + " 0-1"):
            self.refused(text)

    def test_other_kinds(self):
        for thing in odd_things() + [b"net 2 0-1", ["net", "2", "0-1"], ("net 2 0-1",), ["net 2 0-1"], 2, (), ("net",)]:
            self.refused(thing)


if __name__ == "__main__":
    unittest.main()
