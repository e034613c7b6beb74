"""Where letters stand, and the handings that carry them on."""

from neverwait.errors import NoHanding
from neverwait.kinds import is_house, is_row, is_whole


def under_way(stand):
    """The letters that are under way, by number."""
    return [letter for letter, house in enumerate(stand) if house is not None]


def is_stand(net, homes, thing):
    """True of a stand of the letters with these homes."""
    if not is_row(thing, len(homes)):
        return False
    for home, house in zip(homes, thing):
        if house is not None and not (is_house(net.many(), house) and house != home):
            return False
    return all([thing.count(house) <= len(net.out(house)) for house in range(net.many())])


def wrong(net, homes, stand, thing):
    """The first that is wrong in a thing as a handing of the stand; None where nothing is."""
    if not is_row(thing, len(homes)):
        return ("row",)
    for letter in range(len(homes)):
        fault = wrong_of_letter(net, stand, thing, letter)
        if fault is not None:
            return fault
    return None


def wrong_of_letter(net, stand, row, letter):
    """What is wrong in a letter's thing, where nothing is in those ahead of it; or None."""
    house = stand[letter]
    goes = row[letter]
    if house is None:
        return None if goes is None else ("none", letter)
    if not is_whole(goes) or goes not in net.out(house):
        return ("tie", letter)
    for ahead in range(letter):
        if stand[ahead] == house and row[ahead] == goes:
            return ("twice", ahead, letter)
    return None


def behind(net, homes, stand, handing):
    """The stand behind a handing: who came home is not under way any more."""
    if wrong(net, homes, stand, handing) is not None:
        raise NoHanding("this is no handing of the stand")
    return stand_behind(homes, handing)


def stand_behind(homes, handing):
    """Where the letters stand behind what was handed on, or waited."""
    return tuple([None if goes == home else goes for home, goes in zip(homes, handing)])


def taker(stand, handing, house, goes):
    """The letter that goes from the one house to the other; None where there is none."""
    for letter in range(len(stand)):
        if stand[letter] == house and handing[letter] == goes:
            return letter
    return None
