"""Handing letters on by a rule: who takes which tie."""

from neverwait.rules import InTurn


def hand(rule, net, homes, stand, beat):
    """The handing of a stand by a rule, at a beat."""
    letters = rule.order(net, homes, stand, beat)
    goes = [None for home in homes]
    if isinstance(rule, InTurn):
        hand_in_turn(net, homes, stand, letters, goes)
    else:
        hand_eagerly(net, homes, stand, letters, goes)
    return tuple(goes)


def hand_eagerly(net, homes, stand, letters, goes):
    """Each letter takes a good tie that is free; behind all of them the others take what is left."""
    for letter in letters:
        goes[letter] = first_free(net.good(stand[letter], homes[letter]), stand, goes, letter)
    for letter in letters:
        if goes[letter] is None:
            goes[letter] = first_free(net.out(stand[letter]), stand, goes, letter)


def hand_in_turn(net, homes, stand, letters, goes):
    """Each letter takes a good tie that is free, else any, ahead of all that come behind it."""
    for letter in letters:
        house = stand[letter]
        goes[letter] = first_free(net.good(house, homes[letter]) + net.out(house), stand, goes, letter)


def first_free(others, stand, goes, letter):
    """The first of these houses to which no letter goes yet from the letter's own; None where each has one."""
    taken = [goes[ahead] for ahead in range(len(stand)) if stand[ahead] == stand[letter]]
    for house in others:
        if house not in taken:
            return house
    return None
