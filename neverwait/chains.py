"""Chains: another letter that came home, for a beat at which a letter was led about or waited."""

from neverwait.logs import is_handed_on


def is_chain(homes, stands, log, letter, beat, thing):
    """True of a chain of a letter that is under way at a beat."""
    if not is_handed_on(stands, log, letter, beat) or not isinstance(thing, list) or len(thing) == 0:
        return False
    house = stands[beat][letter]
    for later, one in enumerate(thing):
        if not is_sent_from(stands, log, one, beat + later, house):
            return False
        house = log[beat + later][one]
    # One ahead of the last may come home, too: another one that stands there then goes on.
    return thing[0] != letter and house == homes[thing[-1]]


def is_sent_from(stands, log, letter, beat, house):
    """True where a letter stands at the house, and goes to another one."""
    if not is_handed_on(stands, log, letter, beat):
        return False
    return stands[beat][letter] == house and log[beat][letter] != house


def is_straight(net, homes, stands, log, letter, beat, chain):
    """True of a chain that comes to its end sooner than the letter itself could be there."""
    if not is_chain(homes, stands, log, letter, beat, chain):
        return False
    return net.far(log[beat][letter], homes[chain[-1]]) >= len(chain)
