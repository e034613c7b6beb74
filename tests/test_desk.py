import unittest
from random import Random

from neverwait.blame import blame
from neverwait.desk import Desk
from neverwait.errors import NoHouse, NoNet, NoRow, NoShape, NoStand, NoText, TooMany
from neverwait.handing import hand
from neverwait.logs import home_at, led_at, stands_of
from neverwait.measures import measure
from neverwait.nettexts import net_text, read_net
from neverwait.rounds import round_of
from neverwait.rules import Elder, Farthest, InTurn, Nearest, Turns
from neverwait.runs import run
from neverwait.shapes import box_net, ring_net, words_net
from tests.samples import mixed_net, odd_things, sample_nets, stand_behind, tree_log

RULES = {"elder": Elder, "nearest": Nearest, "farthest": Farthest, "turns": Turns, "inturn": InTurn}

# Rows of each form, right for a ring of six houses with two letters or more.
RIGHT_ROWS = ["show", "letters", "measure", "far 0 3", "beat elder", "run elder 9", "led turns 9 1",
              "blame nearest 9 1 0", "round farthest 9", "letter 3 4"]

# What is no row, whatever the desk keeps.
WRONG_ROWS = ["", " ", "  ", "-", "0", "ok", "desk", "nets", "net2", "net\n", "net\t2 0-1", "Net 2 0-1", " net 2 0-1",
              "NET", "show ", " show", "show\n", "\nshow", "show\t", "show show", "show 1", "Show", "sho", "shows",
              "letters 1", "letters ", " letters", "letters\n", "measure 0", "measure ", "measures",
              "box", "box ", "box  2", "box 2  2", "box 2 ", "box 02", "box 2 02", "box two", "box -2", "box 2,2",
              "box 2 2 x", "box (2, 2)", "box 2.0", "box 2\n", "Box 2",
              "ring", "ring ", "ring  5", "ring 05", "ring 5 5", "ring five", "ring -5", "ring +5", "ring 5.",
              "ring 5 ", "ring 5\n", "ring 1_0", "ring 0x5", "ring \u0665", "ring \u00b2", "ring \uff15", "ring 00",
              "words", "words 2", "words 2 2 2", "words 02 2", "words 2 02", "words 2  2", "words 2 2 ", "words a b",
              "letter", "letter 0", "letter 0 1 2", "letter 00 1", "letter 0 01", "letter 0  1", "letter 0 1 ",
              "letter - 1", "letter 0 -", "letter -1 0", "letter 0>1", "letter a b", "letter 0 1\n", "letter None 1",
              "beat", "beat ", "beat Elder", "beat elder ", "beat  elder", "beat elder 1", "beat ranked", "beat rule",
              "beat in turn", "beat 0", "beat elder\n", "beat ELDER", "beats elder",
              "run", "run elder", "run 9", "run elder 09", "run elder 9 9", "run elder -1", "run 9 elder",
              "run elder 9 ", "run  elder 9", "run elder  9", "run ranked 9", "run elder x", "run elder 9\n",
              "led", "led elder", "led elder 9", "led elder 9 1 1", "led elder 09 1", "led elder 9 01",
              "led elder 9 -1", "led 9 1", "led elder 9  1", "led elder 9 1 ", "led ranked 9 1", "led elder 9 -",
              "blame", "blame elder", "blame elder 9", "blame elder 9 1", "blame elder 9 1 0 0", "blame elder 09 1 0",
              "blame elder 9 01 0", "blame elder 9 1 00", "blame elder 9 1 -1", "blame inturn 9 1 0",
              "blame inturn 0 0 0", "blame elder 9 1  0", "blame elder 9 1 0 ", "blame ranked 9 1 0",
              "round", "round elder", "round 9", "round elder 09", "round elder 9 9", "round elder 9 ", "round x 9",
              "far", "far 0", "far 0 1 2", "far 00 1", "far 0 01", "far 0  1", "far 0 1 ", "far a b", "far -1 0",
              "far 0 1\n", "far 0 - 1", "far 0\t1", "far\t0 1", "far 0 \u0661"]

# What is `net`, or begins with `net` and a blank, and is no net's text.
WRONG_TEXTS = ["net", "net ", "net 2", "net 1", "net  2 0-1", "net 2 0-1 ", "net 2 0-1\n", "net 2 1-0", "net 02 0-1",
               "net 2 0-1 0-1", "net 2 0>1", "net 2 0>1 1>0", "net 33", "net net 2 0-1", "net x", "net 3 0-1 1-2 1-3",
               "net 3 0-2 0-1", "net 2 0-01", "net show", "net 3 0-1"]

WRONG_SHAPES = ["box 1", "box 9", "box 0", "box 2 1", "box 6 6", "box 2 2 2 2 2 2", "box 2 9", "ring 0", "ring 1",
                "ring 2", "ring 33", "words 0 2", "words 6 2", "words 1 1", "words 1 6", "words 3 4", "words 2 0",
                "box " + "9" * 60, "ring " + "9" * 60, "words 1 " + "9" * 60, "words " + "9" * 60 + " 2",
                "box 2 2 2 2 2 2 2 2 2 2 2", "ring " + "9" * 5000]


def desk_of(*rows):
    """A desk that has heard these rows."""
    desk = Desk()
    for row in rows:
        desk.say(row)
    return desk


def tree_desk():
    """A tree with three letters that lead each other about."""
    tree, homes, stands, log = tree_log()
    return desk_of(net_text(tree), *[f"letter {house} {home}" for house, home in zip(stands[0], homes)])


def two_on_a_ring():
    """A ring of six with two letters at 0, both for 2."""
    return desk_of("ring 6", "letter 0 2", "letter 0 2")


class Nets(unittest.TestCase):

    def test_shapes(self):
        for row, net in (("box 2", box_net((2,))), ("box 3 2", box_net((3, 2))), ("box 2 2 2 2 2", box_net((2,) * 5)),
                         ("box 8 4", box_net((8, 4))), ("ring 3", ring_net(3)), ("ring 32", ring_net(32)),
                         ("words 1 2", words_net(1, 2)), ("words 2 5", words_net(2, 5)),
                         ("words 5 2", words_net(5, 2))):
            desk = Desk()
            self.assertEqual(desk.say(row), "ok")
            self.assertEqual(desk.say("show"), net_text(net))
        # The first number is that of figures.
        self.assertNotEqual(desk_of("words 2 3").say("show"), desk_of("words 3 2").say("show"))

    def test_texts(self):
        desk = Desk()
        for net in sample_nets():
            self.assertEqual(desk.say(net_text(net)), "ok")
            self.assertEqual(desk.say("show"), net_text(net))

    def test_a_net_told_anew_has_no_letters(self):
        for row in ("ring 6", "box 3 2", "words 1 3", "net 2 0-1"):
            desk = tree_desk()
            desk.say("beat elder")
            self.assertEqual(desk.say(row), "ok")
            self.assertEqual(desk.say("letters"), "")
            self.assertEqual(desk.say("measure"), "0")
            self.assertEqual(desk.say("run elder 9"), "")

    def test_a_net_told_anew_has_no_beats_done(self):
        desk = desk_of("ring 6", "beat turns")
        for row in ("letter 0 2", "letter 0 2"):
            desk.say(row)
        self.assertEqual(desk.say("beat turns"), "5 1")
        desk = desk_of("ring 6", "beat turns", "ring 6", "letter 0 2", "letter 0 2")
        self.assertEqual(desk.say("beat turns"), "1 5")

    def test_far(self):
        desk = desk_of("ring 6")
        self.assertEqual([desk.say(f"far 0 {house}") for house in range(6)], ["0", "1", "2", "3", "2", "1"])
        desk = desk_of(net_text(mixed_net()))
        self.assertEqual((desk.say("far 1 3"), desk.say("far 3 1")), ("2", "1"))


class Letters(unittest.TestCase):

    def test_behind_the_others(self):
        desk = desk_of("ring 6")
        self.assertEqual(desk.say("letters"), "")
        self.assertEqual(desk.say("letter 0 2"), "ok")
        self.assertEqual(desk.say("letters"), "0>2")
        self.assertEqual(desk.say("letter 5 3"), "ok")
        self.assertEqual(desk.say("letter 0 4"), "ok")
        self.assertEqual(desk.say("letters"), "0>2 5>3 0>4")

    def test_where_they_stand_behind_beats(self):
        desk = two_on_a_ring()
        self.assertEqual(desk.say("beat elder"), "1 5")
        self.assertEqual(desk.say("letters"), "1>2 5>2")
        self.assertEqual(desk.say("beat elder"), "2 0")
        self.assertEqual(desk.say("letters"), "->2 0>2")
        self.assertEqual(desk.say("letter 3 0"), "ok")
        self.assertEqual(desk.say("letters"), "->2 0>2 3>0")
        self.assertEqual(desk.say("beat elder"), "- 1 4")
        self.assertEqual(desk.say("beat elder"), "- 2 5")
        self.assertEqual(desk.say("beat elder"), "- - 0")
        self.assertEqual(desk.say("letters"), "->2 ->2 ->0")
        self.assertEqual(desk.say("beat elder"), "- - -")
        self.assertEqual(desk.say("letters"), "->2 ->2 ->0")

    def test_room_is_there_again(self):
        desk = desk_of("box 4", "letter 0 3")
        with self.assertRaises(NoStand):
            desk.say("letter 0 3")
        desk.say("beat elder")
        self.assertEqual(desk.say("letter 0 3"), "ok")
        self.assertEqual(desk.say("letters"), "1>3 0>3")

    def test_the_seventeenth(self):
        desk = desk_of("ring 12", *[f"letter {at % 12} {(at + 1) % 12}" for at in range(16)])
        with self.assertRaises(TooMany):
            desk.say("letter 5 0")
        self.assertEqual(desk.say("letters").count(">"), 16)
        # Those that are home count as well.
        desk.say("beat elder")
        self.assertEqual(desk.say("beat elder").count("-"), 12)
        with self.assertRaises(TooMany):
            desk.say("letter 5 0")
        desk.say("ring 12")
        self.assertEqual(desk.say("letter 5 0"), "ok")

    def test_which_refusal_comes_first(self):
        desk = desk_of("ring 12", *[f"letter {at % 12} {(at + 1) % 12}" for at in range(16)])
        for row, refusal in (("letter 12 0", NoHouse), ("letter 0 12", NoHouse), ("letter 12 12", NoHouse),
                             ("letter 5 5", NoStand), ("letter 0 5", NoStand), ("letter 0 0", NoStand),
                             ("letter 5 0", TooMany), ("letter 05 0", NoRow)):
            with self.assertRaises(refusal):
                desk.say(row)
        desk = desk_of("box 4", "letter 0 3")
        for row, refusal in (("letter 0 4", NoHouse), ("letter 4 0", NoHouse), ("letter 4 4", NoHouse),
                             ("letter 0 2", NoStand), ("letter 2 2", NoStand), ("letter 0 0", NoStand),
                             ("letter 0 " + "9" * 60, NoHouse), ("letter " + "9" * 60 + " 0", NoHouse)):
            with self.assertRaises(refusal):
                desk.say(row)
        self.assertEqual(desk.say("letters"), "0>3")


class Beats(unittest.TestCase):

    def test_each_rule(self):
        # At 0 of a ring of six: the letter 0 is three ties from home, the letter 1 one tie, both by 1.
        for rule, told in (("elder", "1 5"), ("nearest", "5 1"), ("farthest", "1 5"), ("turns", "1 5"),
                           ("inturn", "1 5")):
            self.assertEqual(desk_of("ring 6", "letter 0 3", "letter 0 1").say(f"beat {rule}"), told)
        # In turn the letter 1 takes the first free tie, which the letter 2 needs.
        rows = ("box 3 3", "letter 4 5", "letter 4 5", "letter 4 7")
        self.assertEqual(desk_of(*rows).say("beat elder"), "5 1 7")
        self.assertEqual(desk_of(*rows).say("beat inturn"), "5 7 1")

    def test_by_turns_it_goes_on_from_as_many_beats_as_were_done(self):
        for done, told in ((0, "1 5"), (1, "5 1"), (2, "1 5"), (3, "5 1")):
            desk = desk_of("ring 6", *["beat elder"] * done, "letter 0 2", "letter 0 2")
            self.assertEqual(desk.say("beat turns"), told)

    def test_the_others_count_from_0(self):
        for done in range(4):
            desk = desk_of("ring 6", *["beat turns"] * done, "letter 0 2", "letter 0 2")
            self.assertEqual(desk.say("run turns 9"), "2 4")
            self.assertEqual(desk.say("led turns 9 0"), "-")
            self.assertEqual(desk.say("led turns 9 1"), "0")
            self.assertEqual(desk.say("blame turns 9 1 0"), "0 0")
            self.assertEqual(desk.say("round turns 9"), "home 4")

    def test_no_letters(self):
        desk = desk_of("ring 6")
        for rule in RULES:
            self.assertEqual(desk.say(f"beat {rule}"), "")
            self.assertEqual(desk.say(f"run {rule} 9"), "")
            self.assertEqual(desk.say(f"round {rule} 9"), "home 0")
        self.assertEqual((desk.say("letters"), desk.say("measure")), ("", "0"))


class Asking(unittest.TestCase):

    def test_run(self):
        desk = tree_desk()
        self.assertEqual(desk.say("run elder 500"), "3 4 6")
        self.assertEqual(desk.say("run elder 6"), "3 4 6")
        self.assertEqual(desk.say("run elder 5"), "3 4 -")
        self.assertEqual(desk.say("run elder 3"), "3 - -")
        self.assertEqual(desk.say("run elder 0"), "- - -")

    def test_who_is_home_already(self):
        desk = tree_desk()
        for beat in range(3):
            desk.say("beat elder")
        self.assertEqual(desk.say("letters"), "->4 2>3 2>3")
        self.assertEqual(desk.say("run elder 500"), "- 1 3")
        self.assertEqual(desk.say("led elder 500 2"), "0")
        self.assertEqual(desk.say("blame elder 500 2 0"), "1")
        self.assertEqual(desk.say("led elder 500 0"), "-")
        self.assertEqual(desk.say("blame elder 500 0 0"), "-")
        self.assertEqual(desk.say("round elder 500"), "home 3")

    def test_led(self):
        desk = tree_desk()
        self.assertEqual([desk.say(f"led elder 500 {letter}") for letter in range(3)], ["-", "1", "0 3"])
        self.assertEqual([desk.say(f"led elder 3 {letter}") for letter in range(3)], ["-", "1", "0"])
        self.assertEqual([desk.say(f"led elder 0 {letter}") for letter in range(3)], ["-", "-", "-"])

    def test_blame(self):
        desk = tree_desk()
        self.assertEqual(desk.say("blame elder 500 2 0"), "1 0 0")
        self.assertEqual(desk.say("blame elder 3 2 0"), "1 0 0")
        self.assertEqual(desk.say("blame elder 500 1 1"), "0 0")
        self.assertEqual(desk.say("blame elder 500 2 3"), "1")
        # The log ends ahead; it is not led about at that beat; the beat is behind the log.
        for row in ("2 2 0", "0 2 0", "500 2 1", "500 0 0", "500 2 6", "500 2 501", "3 2 3", "500 2 " + "9" * 60):
            self.assertEqual(desk.say(f"blame elder {row}"), "-")

    def test_round(self):
        self.assertEqual(tree_desk().say("round elder 500"), "home 6")
        self.assertEqual(tree_desk().say("round elder 6"), "home 6")
        self.assertEqual(tree_desk().say("round elder 5"), "on")
        self.assertEqual(tree_desk().say("round elder 0"), "on")
        desk = desk_of("ring 4", "letter 1 3", "letter 1 2", "letter 3 0", "letter 3 1")
        self.assertEqual(desk.say("round farthest 500"), "round 0 2")
        self.assertEqual(desk.say("round farthest 1"), "on")
        desk = desk_of("ring 4", "letter 1 3", "letter 1 2", "letter 3 1", "letter 3 0")
        self.assertEqual(desk.say("round turns 500"), "round 0 4")
        self.assertEqual(desk.say("round turns 3"), "on")

    def test_measure(self):
        self.assertEqual(two_on_a_ring().say("measure"), "4")
        self.assertEqual(tree_desk().say("measure"), "6")

    def test_they_change_nothing(self):
        rows = ["show", "letters", "measure", "far 0 3", "round elder 9", "round turns 9", "run farthest 9",
                "run inturn 9", "led nearest 9 2", "blame turns 9 2 0", "led elder 0 0"]
        desk = tree_desk()
        first = [desk.say(row) for row in rows]
        self.assertEqual([desk.say(row) for row in rows], first)
        self.assertEqual([desk.say(row) for row in reversed(rows)], first[::-1])
        self.assertEqual(desk.say("beat turns"), tree_desk().say("beat turns"))

    def test_what_is_said_is_a_text(self):
        desk = two_on_a_ring()
        for row in ["ring 6", "letter 0 2", "letter 0 2"] + RIGHT_ROWS:
            self.assertIs(type(desk.say(row)), str)

    def test_by_many_rows(self):
        chance = Random(97)
        heard = {}
        for time in range(60):
            desk, model = Desk(), Model()
            desk.say(model.tell_net(chance.choice(sample_nets() + [ring_net(4), ring_net(6)])))
            for at in range(120):
                row = model.random_row(chance)
                right = model.answer(row)
                if isinstance(right, str):
                    self.assertEqual(desk.say(row), right, row)
                else:
                    with self.assertRaises(right):
                        desk.say(row)
                heard.setdefault(row.split(" ")[0], set()).add(right)
        self.assertEqual(len(heard), 12)
        for word in ("letter", "beat", "run", "led", "blame", "round", "letters", "measure", "far"):
            self.assertGreater(len(heard[word]), 3)


class Refusals(unittest.TestCase):

    def desks(self):
        return [Desk(), desk_of("ring 6"), two_on_a_ring()]

    def check(self, row, refusal):
        """Refused by each desk, behind which all is as it was."""
        for desk, twin in zip(self.desks(), self.desks()):
            with self.assertRaises(refusal) as caught:
                desk.say(row)
            self.assertIs(type(caught.exception), refusal)
            self.check_alike(desk, twin)

    def check_alike(self, desk, twin):
        for row in RIGHT_ROWS[:4] + ["run elder 9", "beat turns", "letters", "letter 3 4", "beat turns"] + RIGHT_ROWS:
            told = []
            for one in (desk, twin):
                try:
                    told.append(one.say(row))
                except (NoNet, NoRow) as refused:
                    told.append(type(refused))
            self.assertEqual(told[0], told[1], row)

    def test_what_is_no_row(self):
        for row in WRONG_ROWS:
            self.check(row, NoRow)

    def test_of_anything(self):
        for thing in [thing for thing in odd_things() if not isinstance(thing, str)] + [["show"], ("show",), b"show",
                                                                                       {"show": 1}, 5, Desk()]:
            self.check(thing, NoRow)

    def test_what_is_no_text_of_a_net(self):
        for row in WRONG_TEXTS:
            self.check(row, NoText)

    def test_what_is_no_shape(self):
        for row in WRONG_SHAPES:
            self.check(row, NoShape)

    def test_no_net_is_kept(self):
        desk = Desk()
        rows = RIGHT_ROWS + ["letter 99 99", "letter 0 0", "far 99 0", "led elder 9 99", "run elder 501",
                             "round elder 501", "led elder 501 99", "blame elder 501 0 0", "blame elder 9 99 0"]
        for time in range(2):
            for row in rows:
                with self.assertRaises(NoNet) as caught:
                    desk.say(row)
                self.assertIs(type(caught.exception), NoNet)
            for row, refusal in (("net 2", NoText), ("ring 2", NoShape), ("box 1", NoShape), ("words 9 9", NoShape)):
                with self.assertRaises(refusal):
                    desk.say(row)
        self.assertEqual(desk.say("ring 6"), "ok")

    def test_no_letters_number(self):
        for desk, numbers in ((desk_of("ring 6"), (0, 1)), (two_on_a_ring(), (2, 3, 99, 10 ** 59))):
            for number in numbers:
                for row in (f"led elder 9 {number}", f"led inturn 9 {number}", f"blame elder 9 {number} 0",
                            f"led elder 0 {number}", f"led elder 501 {number}", f"blame elder 501 {number} 0"):
                    with self.assertRaises(NoRow):
                        desk.say(row)
        self.assertEqual(two_on_a_ring().say("led elder 9 1"), "0")

    def test_more_than_500_handings(self):
        desk = two_on_a_ring()
        for most in (501, 502, 10 ** 59, int("9" * 60)):
            for row in (f"run elder {most}", f"led elder {most} 1", f"blame elder {most} 1 0", f"round elder {most}"):
                with self.assertRaises(NoRow):
                    desk.say(row)
        with self.assertRaises(NoRow):
            desk.say("run elder " + "9" * 5000)
        self.assertEqual([desk.say(row) for row in ("run elder 500", "led elder 500 1", "blame elder 500 1 0",
                                                    "round elder 500")], ["2 4", "0", "0 0", "home 4"])
        for row in ("run elder 501", "round elder 501"):
            with self.assertRaises(NoRow):
                desk_of("ring 6").say(row)

    def test_no_house(self):
        desk = desk_of("ring 6")
        for row in ("far 6 0", "far 0 6", "far 6 6", "far 0 99", "far " + "9" * 60 + " 0", "letter 6 0", "letter 0 6"):
            with self.assertRaises(NoHouse):
                desk.say(row)
        self.assertEqual(desk.say("letters"), "")

    def test_behind_a_refused_letter_all_is_as_it_was(self):
        refused = (("letter 0 0", NoStand), ("letter 9 0", NoHouse), ("letter 0 9", NoHouse), ("letter 0 5", NoStand),
                   ("far 9 9", NoHouse), ("led elder 9 2", NoRow), ("run elder 501", NoRow),
                   ("blame inturn 9 0 0", NoRow))
        for row, refusal in refused:
            desk = two_on_a_ring()
            with self.assertRaises(refusal):
                desk.say(row)
            self.check_alike(desk, two_on_a_ring())


class SideBySide(unittest.TestCase):

    def test_two_desks_know_nothing_of_each_other(self):
        one, other = Desk(), Desk()
        one.say("ring 6")
        with self.assertRaises(NoNet):
            other.say("show")
        other.say("box 3 2")
        one.say("letter 0 2")
        self.assertEqual((one.say("letters"), other.say("letters")), ("0>2", ""))
        other.say("letter 0 5")
        other.say("letter 1 0")
        one.say("beat elder")
        self.assertEqual((one.say("letters"), other.say("letters")), ("1>2", "0>5 1>0"))
        self.assertEqual((one.say("show"), other.say("show")), (net_text(ring_net(6)), net_text(box_net((3, 2)))))
        self.assertEqual(Desk().__dict__, Desk().__dict__)

    def test_beats_are_counted_for_each(self):
        one, other = desk_of("ring 6", "beat elder"), desk_of("ring 6")
        for row in ("letter 0 2", "letter 0 2"):
            one.say(row)
            other.say(row)
        self.assertEqual((one.say("beat turns"), other.say("beat turns")), ("5 1", "1 5"))


class Model:
    """Point 26 told once more: what a desk that keeps a net says, or which refusal is due."""

    def tell_net(self, net):
        self.net, self.homes, self.stand, self.done = net, (), (), 0
        return net_text(net)

    def random_row(self, chance):
        many = self.net.many()
        house = lambda: str(chance.randrange(many + (chance.random() < 0.1)))
        rule = chance.choice(list(RULES))
        most = str(chance.choice((0, 1, 2, 5, 9, 60, 500, 501)))
        letter = str(chance.randrange(len(self.homes) + 1))
        # Many letters begin at one of two houses and go to one of two others.
        rows = [["letter", str(chance.randrange(2)), str(many - 1 - chance.randrange(2))]] * 4
        rows += [["letter", house(), house()]] * 3 + [["beat", rule]] * 3
        rows += [["show"], ["letters"], ["measure"], ["far", house(), house()], ["run", rule, most],
                 ["round", rule, most]]
        rows += [["led", rule, most, letter], ["blame", rule, most, letter, str(chance.randrange(3))]] * 2
        if chance.random() < 0.02:
            return chance.choice(("ring 5", net_text(mixed_net())))
        return " ".join(chance.choice(rows))

    def answer(self, row):
        word, *rest = row.split(" ")
        if word in ("net", "ring"):
            self.tell_net(read_net(row) if word == "net" else ring_net(int(rest[0])))
            return "ok"
        return getattr(self, word)(*[int(part) if part.isdigit() else RULES[part]() for part in rest])

    def join(self, things):
        return " ".join("-" if thing is None else str(thing) for thing in things)

    def show(self):
        return net_text(self.net)

    def letter(self, house, home):
        if max(house, home) >= self.net.many():
            return NoHouse
        if house == home or self.stand.count(house) == len(self.net.out(house)):
            return NoStand
        if len(self.homes) == 16:
            return TooMany
        self.homes, self.stand = self.homes + (home,), self.stand + (house,)
        return "ok"

    def beat(self, rule):
        handing = hand(rule, self.net, self.homes, self.stand, self.done)
        self.stand, self.done = stand_behind(self.homes, handing), self.done + 1
        return self.join(handing)

    def letters(self):
        return " ".join(self.join([house]) + ">" + str(home) for house, home in zip(self.stand, self.homes))

    def log(self, rule, most):
        log = run(rule, self.net, self.homes, self.stand, most)
        return stands_of(self.homes, self.stand, log), log

    def run(self, rule, most):
        if most > 500:
            return NoRow
        stands, log = self.log(rule, most)
        return self.join(home_at(self.homes, stands, log, letter) for letter in range(len(self.homes)))

    def led(self, rule, most, letter):
        if most > 500 or letter >= len(self.homes):
            return NoRow
        beats = led_at(self.net, self.homes, *self.log(rule, most), letter)
        return self.join(beats) if beats else "-"

    def blame(self, rule, most, letter, beat):
        if isinstance(rule, InTurn) or most > 500 or letter >= len(self.homes):
            return NoRow
        chain = blame(self.net, self.homes, *self.log(rule, most), letter, beat)
        return "-" if chain is None else self.join(chain)

    def round(self, rule, most):
        return NoRow if most > 500 else self.join(round_of(rule, self.net, self.homes, self.stand, most))

    def measure(self):
        return str(measure(self.net, self.homes, self.stand))

    def far(self, one, other):
        return NoHouse if max(one, other) >= self.net.many() else str(self.net.far(one, other))


if __name__ == "__main__":
    unittest.main()
