"""Rules: in which order letters take their ties."""

from neverwait.errors import NoRanks
from neverwait.kinds import is_whole
from neverwait.stands import under_way


class Rule:
    """What all rules have; only the ones below are made."""

    def check_letters(self, homes):
        """Refuse letters that the rule can't put in an order; there are none, but by ranks."""

    def order(self, net, homes, stand, beat):
        """The letters under way, by number."""
        return under_way(stand)

    def period(self, homes):
        """Behind how many beats the rule orders alike again."""
        return 1


class Elder(Rule):
    """By number."""


class InTurn(Rule):
    """By number; unlike by elder, each letter takes its tie at its own turn, a good one or not."""


class Nearest(Rule):
    """By how far it is home, then by number."""

    def order(self, net, homes, stand, beat):
        """The letters under way, the nearest first."""
        return sorted(under_way(stand), key=lambda letter: net.far(stand[letter], homes[letter]))


class Farthest(Rule):
    """The farthest first, then by number."""

    def order(self, net, homes, stand, beat):
        """The letters under way, the farthest first."""
        return sorted(under_way(stand), key=lambda letter: -net.far(stand[letter], homes[letter]))


class Turns(Rule):
    """By number, but each letter comes to be the first in its turn."""

    def order(self, net, homes, stand, beat):
        """The letters under way, by number and beat."""
        return sorted(under_way(stand), key=lambda letter: (letter + beat) % len(homes))

    def period(self, homes):
        """How many letters there are; 1 of none."""
        return max(len(homes), 1)


class Ranked(Rule):
    """The least rank first, then by number."""

    def __init__(self, ranks):
        if not isinstance(ranks, tuple) or not all([is_whole(rank) for rank in ranks]):
            raise NoRanks("the ranks are no tuple of whole numbers")
        self.ranks = ranks

    def check_letters(self, homes):
        """Refuse letters that are not as many as the ranks."""
        if len(self.ranks) != len(homes):
            raise NoRanks("there are not as many ranks as letters")

    def order(self, net, homes, stand, beat):
        """The letters under way, the least rank first."""
        self.check_letters(homes)
        return sorted(under_way(stand), key=lambda letter: self.ranks[letter])
