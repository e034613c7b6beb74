"""What several tests share: things of all kinds, and nets of many shapes."""

from itertools import product

from neverwait.nets import Net
from neverwait.rules import Elder, Farthest, InTurn, Nearest, Ranked, Turns
from neverwait.shapes import box_net, pairs_net, ring_net, words_net


class Hostile:
    """A thing that must not be compared, looked up, counted or gone through."""

    def refuse(self, *others):
        raise AssertionError("this thing was touched")

    __eq__ = __ne__ = __lt__ = __le__ = __gt__ = __ge__ = refuse
    __hash__ = __len__ = __iter__ = __getitem__ = __bool__ = __contains__ = refuse
    __int__ = __index__ = __add__ = __radd__ = __sub__ = __rsub__ = __mod__ = refuse


def odd_things():
    """Things that are never a house, a net's ties, sides, a text, a row of several houses or ranks."""
    round_list = []
    round_list.append(round_list)
    return [True, False, None, "", "0", "1", "abc", b"", b"0", bytearray(b"1"), [], [0], [1], [None], round_list,
            {}, {0: 1}, set(), {0, 1}, frozenset([1]), range(2), object(), Hostile(), [Hostile()], int, len,
            -1, -10 ** 59, 10 ** 59, NotImplemented, Ellipsis, iter([]), ring_net(3)]


def odd_numbers():
    """Things that are no whole number from 0 on of one or two figures."""
    return odd_things() + [(), (0,), (1, 1), ((),)]


def one_way_ring(many):
    return Net(many, [(house, (house + 1) % many) for house in range(many)])


def mixed_net():
    """Two-way ties 0-1 and 3-4, and a one-way ring 1>2>3>1; five houses."""
    return Net(5, [(0, 1), (1, 0), (3, 4), (4, 3), (1, 2), (2, 3), (3, 1)])


def complete_net(many):
    return Net(many, [(one, other) for one in range(many) for other in range(many) if one != other])


def sample_nets():
    return [pairs_net(2, [(0, 1)]), one_way_ring(3), one_way_ring(7), mixed_net(), ring_net(3), ring_net(6),
            box_net((3, 2)), box_net((2, 2, 2)), words_net(2, 3), complete_net(5), complete_net(9),
            pairs_net(5, [(0, 1), (2, 1), (1, 3), (4, 3)]),
            Net(4, [(0, 1), (1, 2), (2, 3), (3, 0), (0, 2), (2, 0)])]


def small_nets():
    return [net for net in sample_nets() if net.many() <= 5]


def all_sides():
    """All sides of boxes, reckoned from point 6."""
    found = []
    for length in range(1, 6):
        for sides in product(range(2, 9), repeat=length):
            houses = 1
            for side in sides:
                houses *= side
            if houses <= 32:
                found.append((sides, houses))
    return found


def wrong_sides():
    """Things that are not the sides of a box, some of them just beyond point 6."""
    beyond = [(), (1,), (9,), (2, 1), (2, 9), (3, 11), (7, 5), (4, 9), (2, 2, 2, 2, 3), (0,), (-2,), (-2, -2),
              (2, 2, 2, 2, 2, 2), (2, 2, 2, 2, 2, 1), (6, 6), (8, 8), (10 ** 59, 2)]
    others = [[2, 2], (True, 2), (2, True), (2, None), (2, "2"), ((2, 2),), 2, "22", {2: 2}, b"22"]
    within = [sides for thing in odd_things() for sides in (thing, (thing,), (2, thing), (thing, 2))]
    return beyond + others + within


def all_places(sides):
    """The places of a box, by the numbers of their houses."""
    # product has the last number change fastest, the numbers of houses the first one.
    return [place[::-1] for place in product(*[range(side) for side in sides[::-1]])]


def all_homes(net, letters):
    return list(product(range(net.many()), repeat=letters))


def all_rows(net, letters):
    """All tuples of houses and None."""
    return list(product([None] + list(range(net.many())), repeat=letters))


def stands_of(net, homes):
    """All stands, reckoned from point 8 alone."""
    return [row for row in all_rows(net, len(homes))
            if not any(house == home for house, home in zip(row, homes))
            and all(row.count(house) <= len(net.out(house)) for house in range(net.many()))]


def handings_of(net, stand):
    """All handings, reckoned from point 8 alone."""
    choices = [[None] if house is None else net.out(house) for house in stand]
    return [row for row in product(*choices)
            if not any(stand[j] is not None and stand[j] == stand[i] and row[j] == row[i]
                       for i in range(len(row)) for j in range(i))]


def eager_rules(letters):
    """The rules that hand on eagerly, ranked by ranks that turn the letters round."""
    return [Elder(), Nearest(), Farthest(), Turns(), Ranked(tuple(range(letters, 0, -1)))]


def all_rules(letters):
    return eager_rules(letters) + [InTurn()]


def random_letters(net, letters, chance):
    """Homes and a stand of so many letters, by a told chance; some are not under way."""
    homes, stand = [], []
    for at in range(letters):
        home = chance.randrange(net.many())
        free = [house for house in range(net.many())
                if house != home and stand.count(house) < len(net.out(house))]
        homes.append(home)
        stand.append(chance.choice(free) if free and chance.random() < 0.9 else None)
    return tuple(homes), tuple(stand)
