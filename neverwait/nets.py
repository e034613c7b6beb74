"""Nets: houses, and ties that lead from one to another."""

from neverwait.errors import NoHouse, NoNet
from neverwait.kinds import are_unlike_houses, is_house, is_row, is_whole_within

FEWEST_HOUSES = 2
MOST_HOUSES = 32
MOST_TIES_OUT = 8


class Net:
    """Houses numbered from 0, and the ties between them."""

    def __init__(self, many, ties):
        check_ties(many, ties)
        check_balance(many, ties)
        self.house_count = many
        self.tie_list = sorted([(one, other) for one, other in ties])
        self.out_lists = [houses_out(many, ties, house) for house in range(many)]
        self.distances = [distances_from(self.out_lists, house) for house in range(many)]
        check_reached(self.distances)

    def many(self):
        """How many houses there are."""
        return self.house_count

    def ties(self):
        """The ties, sorted."""
        return list(self.tie_list)

    def out(self, house):
        """The houses to which ties lead out of a house, going round."""
        self.check_house(house)
        return list(self.out_lists[house])

    def far(self, one, other):
        """The fewest ties along which one comes from the one house to the other."""
        self.check_house(one)
        self.check_house(other)
        return self.distances[one][other]

    def span(self):
        """How far it is at the most."""
        return max([max(row) for row in self.distances])

    def good(self, house, home):
        """The houses to which the good ties out of a house lead, going round."""
        own = self.far(house, home)
        return [other for other in self.out_lists[house] if self.distances[other][home] < own]

    def is_two_way(self):
        """True where with each tie the one back is there."""
        return all([(other, one) in self.tie_list for one, other in self.tie_list])

    def check_house(self, thing):
        """Refuse what is no house of this net."""
        if not is_house(self.house_count, thing):
            raise NoHouse("this is no house of the net")


def check_ties(many, ties):
    """Refuse what is no number of houses, or no list of unlike ties between them."""
    if not is_whole_within(many, FEWEST_HOUSES, MOST_HOUSES):
        raise NoNet("a net has from 2 to 32 houses")
    if not isinstance(ties, list):
        raise NoNet("the ties are no list")
    for tie in ties:
        if not is_tie(many, tie):
            raise NoNet("a tie is a tuple of two unlike houses")
    if len(set(ties)) != len(ties):
        raise NoNet("a tie is there twice")


def is_tie(many, thing):
    """True of a tuple of two unlike ones of so many houses."""
    return is_row(thing, 2) and are_unlike_houses(many, thing[0], thing[1])


def check_balance(many, ties):
    """Refuse ties of which not as many lead out of a house as in, or too many."""
    for house in range(many):
        leading_out = len([one for one, other in ties if one == house])
        leading_in = len([other for one, other in ties if other == house])
        if leading_out != leading_in:
            raise NoNet("of a house not as many ties lead out as in")
        if leading_out > MOST_TIES_OUT:
            raise NoNet("more than eight ties lead out of a house")


def houses_out(many, ties, house):
    """The houses to which ties lead out of a house, going round."""
    others = [other for one, other in ties if one == house]
    return sorted(others, key=lambda other: (other - house) % many)


def distances_from(out_lists, start):
    """How far it is from a house to each one; None where one can't come there."""
    distances = [None for others in out_lists]
    distances[start] = 0
    reached = [start]
    at = 0
    while at < len(reached):
        house = reached[at]
        for other in out_lists[house]:
            if distances[other] is None:
                distances[other] = distances[house] + 1
                reached.append(other)
        at += 1
    return distances


def check_reached(distances):
    """Refuse distances with a house that one can't come to."""
    if any([None in row for row in distances]):
        raise NoNet("one can't come from each house to each other one")


def is_tree(net):
    """True of a two-way net with one pair of tied houses fewer than houses."""
    return net.is_two_way() and len(net.ties()) == 2 * (net.many() - 1)


def is_plain_ring(net):
    """True of a two-way net of which each house has just two ties out."""
    return net.is_two_way() and all([len(net.out(house)) == 2 for house in range(net.many())])
