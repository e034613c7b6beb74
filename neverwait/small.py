"""Small nets gone through: the least beats of a stand, and a worst start by a rule."""

from neverwait.errors import TooMany
from neverwait.runs import run
from neverwait.stands import is_stand, stand_behind, taker, under_way

MOST_HOUSES = 5
MOST_LETTERS = 3


def least(net, homes, stand):
    """The least beats in which all letters of a stand come home by any handings, and such a log."""
    if net.many() > MOST_HOUSES or len(homes) > MOST_LETTERS:
        raise TooMany("only at most five houses and three letters are gone through")
    logs = {stand: []}
    reached = [stand]
    at = 0
    while under_way(reached[at]):
        here = reached[at]
        for handing in all_handings(net, here):
            there = stand_behind(homes, handing)
            if there not in logs:
                logs[there] = logs[here] + [handing]
                reached.append(there)
        at += 1
    log = logs[reached[at]]
    return (len(log), log)


def all_handings(net, stand):
    """All handings of a stand."""
    rows = [()]
    for house in stand:
        goes_to = [None] if house is None else net.out(house)
        rows = [row + (goes,) for row in rows for goes in goes_to if is_free(stand, row, house, goes)]
    return rows


def is_free(stand, row, house, goes):
    """True of None, and of a tie that none of the letters of the row takes."""
    return goes is None or taker(stand[:len(row)], row, house, goes) is None


def worst(rule, net, letters):
    """The most beats that so many letters need by a rule, and the first start that takes so many; None without one."""
    if letters > most_letters(net.many()):
        raise TooMany("only at most five houses and two letters, or three of each, are gone through")
    # Within so many beats all are home by elder, nearest and in turn; by other rules a run may go on for ever.
    bound = net.span() * letters
    found = None
    for homes in house_rows(net.many(), letters):
        for stand in house_rows(net.many(), letters):
            if is_stand(net, homes, stand):
                beats = len(run(rule, net, homes, stand, bound))
                if found is None or beats > found[0]:
                    found = (beats, homes, stand)
    return found


def most_letters(many):
    """Of how many letters all starts on so many houses are gone through."""
    if many > MOST_HOUSES:
        return 0
    return MOST_LETTERS if many <= 3 else 2


def house_rows(many, length):
    """All tuples of so many houses, sorted."""
    rows = [()]
    for at in range(length):
        rows = [row + (house,) for row in rows for house in range(many)]
    return rows
