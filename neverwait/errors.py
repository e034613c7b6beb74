"""The refusals. Each stands straight under BeatError, so that catching one never catches another."""


class BeatError(ValueError):
    """What all refusals are."""


class NoNet(BeatError):
    """These houses and ties are no net."""


class NoShape(BeatError):
    """There is no such box, ring or words."""


class NoTie(BeatError):
    """These two are not tied."""


class NoText(BeatError):
    """This is no net's text."""


class NoHouse(BeatError):
    """This is no house of the net."""


class NoRanks(BeatError):
    """These are no ranks, or not as many as letters."""


class NoStand(BeatError):
    """A letter can't stand so."""


class NoBerth(BeatError):
    """A letter has no tie by which it may have come."""


class NoHanding(BeatError):
    """This is no handing of the stand."""


class NoPlan(BeatError):
    """This is no plan."""


class TooMany(BeatError):
    """There is more of something than is allowed."""


class NoRow(BeatError):
    """This is no row that a desk hears."""
