"""Blame: the chain of those for which a letter was led about, or waited."""

from neverwait.eager import is_led
from neverwait.lanes import reason
from neverwait.logs import is_handed_on
from neverwait.stands import taker


def blame(net, homes, stands, log, letter, beat):
    """The chain of a letter led about at a beat of a log of eager handings; else None."""
    return chain_along(homes, stands, log, letter, beat,
                       lambda one, at: good_tie_taker(net, homes, stands[at], log[at], one))


def lane_blame(box, homes, stands, cames, log, letter, beat):
    """The chain of a letter led about at a beat of a log by lanes; else None."""
    return chain_along(homes, stands, log, letter, beat,
                       lambda one, at: reason(box, homes, stands[at], cames[at], one))


def wait_blame(box, homes, stands, log, letter, beat):
    """The chain of a letter that waits at a beat of a waiting log; else None."""
    return chain_along(homes, stands, log, letter, beat,
                       lambda one, at: wished_tie_taker(box, homes, stands[at], log[at], one))


def good_tie_taker(net, homes, stand, handing, letter):
    """Who took the first good tie of a letter that is led about; else None."""
    if not is_led(net, homes, stand, handing, letter):
        return None
    house = stand[letter]
    return taker(stand, handing, house, net.good(house, homes[letter])[0])


def wished_tie_taker(box, homes, stand, handing, letter):
    """Who took the tie for which a letter that waits wishes; else None."""
    house = stand[letter]
    if handing[letter] != house:
        return None
    return taker(stand, handing, house, box.wish(house, homes[letter]))


def chain_along(homes, stands, log, letter, beat, instead_of):
    """Those gone along with, from the one instead of the letter on, until one comes home; None where none does.

    instead_of tells, of a letter and a beat, who is gone along with instead; None for the letter itself.
    """
    if not is_handed_on(stands, log, letter, beat):
        return None
    going = instead_of(letter, beat)
    if going is None:
        return None
    chain = [going]
    while log[beat][going] != homes[going]:
        beat += 1
        if beat == len(log):
            return None
        other = instead_of(going, beat)
        going = going if other is None else other
        chain.append(going)
    return chain
