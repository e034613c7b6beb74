"""A desk: it keeps a net with letters, hears rows of words, and says a text to each."""

from neverwait.blame import blame
from neverwait.errors import NoNet, NoRow, NoStand, TooMany
from neverwait.handing import hand
from neverwait.logs import home_at, led_at, stands_of
from neverwait.measures import measure
from neverwait.nettexts import net_text, read_net
from neverwait.rounds import round_of
from neverwait.rules import Elder, Farthest, InTurn, Nearest, Turns
from neverwait.runs import run
from neverwait.shapes import box_net, ring_net, words_net
from neverwait.stands import stand_behind

MOST_LETTERS = 16
MOST_HANDINGS = 500
MOST_FIGURES_READ = 60

# What stands behind the first word of a row; a box has one side or more.
FORMS = {
    "ring": ("number",),
    "words": ("number", "number"),
    "show": (),
    "letter": ("number", "number"),
    "beat": ("rule",),
    "letters": (),
    "run": ("rule", "number"),
    "led": ("rule", "number", "number"),
    "blame": ("eager rule", "number", "number", "number"),
    "round": ("rule", "number"),
    "measure": (),
    "far": ("number", "number"),
}


def read_words(words):
    """What the words behind the first one of a row tell, one by one."""
    form = form_of(words)
    if len(words) != len(form) + 1:
        raise NoRow("this row has not as many words as it should")
    return [read_word(word, kind) for word, kind in zip(words[1:], form)]


def form_of(words):
    """The kinds of the words that should stand behind the first one."""
    if words[0] == "box":
        return ("number",) * max(len(words) - 1, 1)
    if words[0] not in FORMS:
        raise NoRow("no row begins so")
    return FORMS[words[0]]


def read_word(word, kind):
    """The number or the rule that a word tells."""
    thing = number_of(word) if kind == "number" else rule_of(word)
    if thing is None:
        raise NoRow("this is no such number or rule")
    if kind == "eager rule" and isinstance(thing, InTurn):
        raise NoRow("this is told of eager rules only")
    return thing


def number_of(word):
    """The number that a word of figures without needless noughts tells; None of other words."""
    if not word.isascii() or not word.isdigit() or (word[0] == "0" and word != "0"):
        return None
    # What is cut off leaves the number far beyond all that is allowed anywhere.
    return int(word[:MOST_FIGURES_READ])


def rule_of(word):
    """The rule of a name; None of other words."""
    if word == "elder":
        return Elder()
    if word == "nearest":
        return Nearest()
    if word == "farthest":
        return Farthest()
    if word == "turns":
        return Turns()
    if word == "inturn":
        return InTurn()
    return None


def spaced(things):
    """Things with blanks between, and a dash for None."""
    return " ".join(["-" if thing is None else str(thing) for thing in things])


def box_told(things):
    """The net of a box row."""
    return box_net(tuple(things))


def ring_told(things):
    """The net of a ring row."""
    return ring_net(things[0])


def words_told(things):
    """The net of a row of words."""
    return words_net(things[0], things[1])


def say_show(desk, things):
    """The net's text."""
    return net_text(desk.kept_net)


def say_letter(desk, things):
    """A letter more."""
    house, home = things
    room = len(desk.kept_net.out(house))
    desk.kept_net.check_house(home)
    if house == home:
        raise NoStand("a letter does not stand at its home")
    if desk.stand.count(house) >= room:
        raise NoStand("as many letters are there as ties lead out")
    if len(desk.homes) >= MOST_LETTERS:
        raise TooMany("a desk keeps at most sixteen letters")
    desk.homes += (home,)
    desk.stand += (house,)
    return "ok"


def say_beat(desk, things):
    """The stand is handed on: to which house each letter goes."""
    handing = hand(things[0], desk.kept_net, desk.homes, desk.stand, desk.beats_done)
    desk.stand = stand_behind(desk.homes, handing)
    desk.beats_done += 1
    return spaced(handing)


def say_letters(desk, things):
    """Where each letter stands, and its home."""
    return " ".join([f"{spaced([house])}>{home}" for house, home in zip(desk.stand, desk.homes)])


def say_run(desk, things):
    """When each letter is home in a run."""
    stands, log = run_told(desk, things)
    return spaced([home_at(desk.homes, stands, log, letter) for letter in range(len(desk.homes))])


def say_led(desk, things):
    """The beats at which a letter is led about in a run."""
    check_letter(desk, things[2])
    stands, log = run_told(desk, things)
    return spaced(led_at(desk.kept_net, desk.homes, stands, log, things[2]) or [None])


def say_blame(desk, things):
    """The chain of a letter that is led about at a beat of a run."""
    check_letter(desk, things[2])
    stands, log = run_told(desk, things)
    return spaced(blame(desk.kept_net, desk.homes, stands, log, things[2], things[3]) or [None])


def say_round(desk, things):
    """What a run comes to."""
    check_handings(things[1])
    return spaced(round_of(things[0], desk.kept_net, desk.homes, desk.stand, things[1]))


def say_measure(desk, things):
    """The measure of the stand."""
    return str(measure(desk.kept_net, desk.homes, desk.stand))


def say_far(desk, things):
    """How far it is from one house to another."""
    return str(desk.kept_net.far(things[0], things[1]))


def run_told(desk, things):
    """The stands and the log of the run that a row asks for by its rule and its number of handings."""
    check_handings(things[1])
    log = run(things[0], desk.kept_net, desk.homes, desk.stand, things[1])
    return (stands_of(desk.homes, desk.stand, log), log)


def check_handings(most):
    """Refuse a run of too many handings."""
    if most > MOST_HANDINGS:
        raise NoRow("a run has at most 500 handings")


def check_letter(desk, letter):
    """Refuse a number that is no letter's."""
    if letter >= len(desk.homes):
        raise NoRow("there is no such letter")


SHAPES = {"box": box_told, "ring": ring_told, "words": words_told}

ANSWERS = {
    "show": say_show,
    "letter": say_letter,
    "beat": say_beat,
    "letters": say_letters,
    "run": say_run,
    "led": say_led,
    "blame": say_blame,
    "round": say_round,
    "measure": say_measure,
    "far": say_far,
}


class Desk:
    """A desk, at first without a net."""

    def __init__(self):
        self.keep(None)

    def keep(self, net):
        """Keep a net, or none, from now on: there are no letters, and no beats are done."""
        self.kept_net = net
        self.homes = ()
        self.stand = ()
        self.beats_done = 0

    def say(self, row):
        """The text that a row is answered with."""
        if not isinstance(row, str):
            raise NoRow("a row is a text")
        words = row.split(" ")
        if words[0] == "net":
            self.keep(read_net(row))
            return "ok"
        things = read_words(words)
        if words[0] in SHAPES:
            shape = SHAPES[words[0]]
            self.keep(shape(things))
            return "ok"
        if self.kept_net is None:
            raise NoNet("the desk keeps no net")
        answer = ANSWERS[words[0]]
        return answer(self, things)
