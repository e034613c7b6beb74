"""What several tests share: things of all kinds, and nets of many shapes."""

from itertools import product

from neverwait.handing import hand
from neverwait.nets import Net
from neverwait.rules import Elder, Farthest, InTurn, Nearest, Ranked, Turns
from neverwait.shapes import box_net, pairs_net, ring_net, words_net


class Hostile:
    """A thing that must not be compared, looked up, counted or gone through."""

    def refuse(self, *others):
        raise AssertionError("this thing was touched")

    __eq__ = __ne__ = __lt__ = __le__ = __gt__ = __ge__ = refuse
    __hash__ = __len__ = __iter__ = __getitem__ = __bool__ = __contains__ = refuse
    __int__ = __index__ = __add__ = __radd__ = __sub__ = __rsub__ = __mod__ = refuse


def odd_things():
    """Things that are never a house, a net's ties, sides, a text, a row of several houses or ranks."""
    round_list = []
    round_list.append(round_list)
    return [True, False, None, "", "0", "1", "abc", b"", b"0", bytearray(b"1"), [], [0], [1], [None], round_list,
            {}, {0: 1}, set(), {0, 1}, frozenset([1]), range(2), object(), Hostile(), [Hostile()], int, len,
            -1, -10 ** 59, 10 ** 59, NotImplemented, Ellipsis, iter([]), ring_net(3)]


def odd_numbers():
    """Things that are no whole number from 0 on of one or two figures."""
    return odd_things() + [(), (0,), (1, 1), ((),)]


def one_way_ring(many):
    return Net(many, [(house, (house + 1) % many) for house in range(many)])


def mixed_net():
    """Two-way ties 0-1 and 3-4, and a one-way ring 1>2>3>1; five houses."""
    return Net(5, [(0, 1), (1, 0), (3, 4), (4, 3), (1, 2), (2, 3), (3, 1)])


def complete_net(many):
    return Net(many, [(one, other) for one in range(many) for other in range(many) if one != other])


def sample_nets():
    return [pairs_net(2, [(0, 1)]), one_way_ring(3), one_way_ring(7), mixed_net(), ring_net(3), ring_net(6),
            box_net((3, 2)), box_net((2, 2, 2)), words_net(2, 3), complete_net(5), complete_net(9),
            pairs_net(5, [(0, 1), (2, 1), (1, 3), (4, 3)]),
            Net(4, [(0, 1), (1, 2), (2, 3), (3, 0), (0, 2), (2, 0)])]


def small_nets():
    return [net for net in sample_nets() if net.many() <= 5]


def all_sides():
    """All sides of boxes, reckoned from point 6."""
    found = []
    for length in range(1, 6):
        for sides in product(range(2, 9), repeat=length):
            houses = 1
            for side in sides:
                houses *= side
            if houses <= 32:
                found.append((sides, houses))
    return found


def wrong_sides():
    """Things that are not the sides of a box, some of them just beyond point 6."""
    beyond = [(), (1,), (9,), (2, 1), (2, 9), (3, 11), (7, 5), (4, 9), (2, 2, 2, 2, 3), (0,), (-2,), (-2, -2),
              (2, 2, 2, 2, 2, 2), (2, 2, 2, 2, 2, 1), (6, 6), (8, 8), (10 ** 59, 2)]
    others = [[2, 2], (True, 2), (2, True), (2, None), (2, "2"), ((2, 2),), 2, "22", {2: 2}, b"22"]
    within = [sides for thing in odd_things() for sides in (thing, (thing,), (2, thing), (thing, 2))]
    return beyond + others + within


def all_places(sides):
    """The places of a box, by the numbers of their houses."""
    # product has the last number change fastest, the numbers of houses the first one.
    return [place[::-1] for place in product(*[range(side) for side in sides[::-1]])]


def all_homes(net, letters):
    return list(product(range(net.many()), repeat=letters))


def all_rows(net, letters):
    """All tuples of houses and None."""
    return list(product([None] + list(range(net.many())), repeat=letters))


def all_stands(net, homes):
    """All stands, reckoned from point 8 alone."""
    return [row for row in all_rows(net, len(homes))
            if not any(house == home for house, home in zip(row, homes))
            and all(row.count(house) <= len(net.out(house)) for house in range(net.many()))]


def handings_of(net, stand):
    """All handings, reckoned from point 8 alone."""
    choices = [[None] if house is None else net.out(house) for house in stand]
    return [row for row in product(*choices)
            if not any(stand[j] is not None and stand[j] == stand[i] and row[j] == row[i]
                       for i in range(len(row)) for j in range(i))]


def eager_rules(letters):
    """The rules that hand on eagerly, ranked by ranks that turn the letters round."""
    return [Elder(), Nearest(), Farthest(), Turns(), Ranked(tuple(range(letters, 0, -1)))]


def all_rules(letters):
    return eager_rules(letters) + [InTurn()]


def random_letters(net, letters, chance):
    """Homes and a stand of so many letters, by a told chance; some are not under way, several have one home."""
    aims = chance.sample(range(net.many()), chance.randint(1, net.many()))
    homes, stand = [], []
    for at in range(letters):
        home = chance.choice(aims)
        free = [house for house in range(net.many())
                if house != home and stand.count(house) < len(net.out(house))]
        homes.append(home)
        stand.append(chance.choice(free) if free and chance.random() < 0.9 else None)
    return tuple(homes), tuple(stand)


def random_tree(many, chance):
    # Tied with one of the seven ahead of it, no house comes to have more than eight ties.
    return pairs_net(many, [(house, chance.randrange(max(0, house - 7), house)) for house in range(1, many)])


def stand_behind(homes, handing):
    """Point 8, also of a waiting log."""
    return tuple(None if goes is None or goes == home else goes for home, goes in zip(homes, handing))


def let_in_log(rule, net, homes, starts, chance):
    """Stands and a log by a rule; each letter is let in at some beat, by a told chance."""
    letters = range(len(homes))
    coming = [letter for letter in letters if starts[letter] is not None]
    stand = (None,) * len(homes)
    stands, log = [], []
    while coming or any(house is not None for house in stand):
        for letter in chance.sample(coming, len(coming)):
            start = starts[letter]
            if stand.count(start) < len(net.out(start)) and chance.random() < 0.4:
                stand = stand[:letter] + (start,) + stand[letter + 1:]
                coming.remove(letter)
        stands.append(stand)
        log.append(hand(rule, net, homes, stand, len(log)))
        stand = stand_behind(homes, log[-1])
    return stands + [stand], log


def waiting_log(box, homes, stand):
    """Stands and a log by point 21, until all are home."""
    stands, log = [stand], []
    while any(house is not None for house in stand):
        taken = {}
        for letter, house in enumerate(stand):
            if house is not None:
                taken.setdefault((house, box.wish(house, homes[letter])), letter)
        goes = {letter: wish for (house, wish), letter in taken.items()}
        log.append(tuple(goes.get(letter, house) for letter, house in enumerate(stand)))
        stand = stand_behind(homes, log[-1])
        stands.append(stand)
    return stands, log


def random_plan(net, letters, chance):
    """A plan of so many letters, by a told chance; many of them begin at a few houses."""
    starts = chance.sample(range(net.many()), chance.randint(1, min(net.many(), 3)))
    plan, beat = [], 0
    for at in range(letters):
        beat += chance.choice((0, 0, 0, 1, 2, 9))
        start = chance.choice(starts)
        plan.append((beat, start, chance.choice([home for home in range(net.many()) if home != start])))
    return plan


def crowded_letters(net, letters, chance):
    """Homes and a stand of letters all under way, any number of them at a house."""
    aims = chance.sample(range(net.many()), chance.randint(1, net.many()))
    homes = tuple(chance.choice(aims) for at in range(letters))
    starts = chance.sample(range(net.many()), 2)
    return homes, tuple(chance.choice([start for start in starts if start != home]) for home in homes)


def crowded_berth(box, house, chance):
    """Homes and what letters came by, as many at a house as ties lead out, by a told chance."""
    came = tuple(chance.sample(box.tied(house), len(box.tied(house))))
    homes = tuple(chance.choice([home for home in range(box.net().many()) if home != house
                                 and box.phase(house, home) >= box.way(house, other)]) for other in came)
    return homes, came


def tree_log():
    """A tree, homes, stands and a log by elder, through which letters are led about one by another.

    At beat 0 the letter 2 is led about by 1, at beat 1 that one by 0, at beat 3 the letter 2 by 1 again.
    """
    tree = pairs_net(7, [(0, 1), (1, 2), (2, 3), (3, 4), (4, 5), (2, 6)])
    log = [(2, 2, 0), (3, 6, 1), (4, 2, 2), (None, 3, 6), (None, None, 2), (None, None, 3)]
    stands = [(6, 1, 1), (2, 2, 0), (3, 6, 1), (None, 2, 2), (None, None, 6), (None, None, 2), (None, None, None)]
    return tree, (4, 3, 3), stands, log
