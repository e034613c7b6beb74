"""Nets of told shapes, all of them two-way."""

from neverwait.errors import NoNet, NoShape, NoTie
from neverwait.kinds import is_house, is_row, is_whole_within
from neverwait.nets import MOST_HOUSES, Net

MOST_SIDES = 5
SHORTEST_SIDE = 2
LONGEST_SIDE = 8
SMALLEST_RING = 3
MOST_FIGURES = 5
LEAST_BASE = 2
GREATEST_BASE = 5


def box_net(sides):
    """The net of a box."""
    check_sides(sides)
    return pairs_net(product(sides), box_pairs(sides))


def ring_net(many):
    """The net of a ring."""
    if not is_whole_within(many, SMALLEST_RING, MOST_HOUSES):
        raise NoShape("a ring has from 3 to 32 houses")
    return pairs_net(many, [(house, (house + 1) % many) for house in range(many)])


def words_net(figures, base):
    """The net of the words of so many figures to a base."""
    if not is_whole_within(figures, 1, MOST_FIGURES):
        raise NoShape("words have from 1 to 5 figures")
    if not is_whole_within(base, LEAST_BASE, GREATEST_BASE):
        raise NoShape("the base of words is from 2 to 5")
    many = product([base] * figures)
    if many > MOST_HOUSES:
        raise NoShape("there are more than 32 such words")
    return pairs_net(many, words_pairs(figures, base))


def pairs_net(many, pairs):
    """The net in which the houses of each pair are tied both ways."""
    if not isinstance(pairs, list):
        raise NoNet("the pairs are no list")
    ties = []
    for pair in pairs:
        if not is_row(pair, 2):
            raise NoNet("a pair is a tuple of two houses")
        one, other = pair
        ties.append((one, other))
        ties.append((other, one))
    # A pair that is there twice, either way round, gives a tie twice, which a net refuses.
    return Net(many, ties)


def without(net, one, other):
    """The net with both ties between two houses gone."""
    if not are_tied(net, one, other):
        raise NoTie("these two are not tied both ways")
    gone = [(one, other), (other, one)]
    return Net(net.many(), [tie for tie in net.ties() if tie not in gone])


def are_tied(net, one, other):
    """True where the two are houses that are tied both ways."""
    if not is_house(net.many(), one) or not is_house(net.many(), other):
        return False
    return other in net.out(one) and one in net.out(other)


def check_sides(sides):
    """Refuse what is not the sides of a box."""
    if not isinstance(sides, tuple) or not is_whole_within(len(sides), 1, MOST_SIDES):
        raise NoShape("the sides of a box are a tuple of one to five numbers")
    for side in sides:
        if not is_whole_within(side, SHORTEST_SIDE, LONGEST_SIDE):
            raise NoShape("a side of a box is from 2 to 8")
    if product(sides) > MOST_HOUSES:
        raise NoShape("a box has at most 32 houses")


def box_pairs(sides):
    """The pairs of houses of a box whose places are unlike in just one number, by 1."""
    pairs = []
    step = 1
    for side in sides:
        for house in range(product(sides)):
            if house // step % side + 1 < side:
                pairs.append((house, house + step))
        step *= side
    return pairs


def words_pairs(figures, base):
    """The pairs of words that are unlike in just one figure."""
    pairs = []
    step = 1
    for at in range(figures):
        for house in range(product([base] * figures)):
            for more in range(1, base - house // step % base):
                pairs.append((house, house + more * step))
        step *= base
    return pairs


def product(numbers):
    """All the numbers, one times the other."""
    result = 1
    for number in numbers:
        result *= number
    return result
