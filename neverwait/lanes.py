"""Handing on by lanes in a box: each letter came by a tie, and may keep to the way of it."""

from neverwait.errors import NoBerth
from neverwait.kinds import is_row, is_whole, is_whole_within
from neverwait.stands import taker, under_way


def is_berthed(box, homes, stand, came):
    """True where the stand is berthed with what the letters came by."""
    if not is_row(came, len(stand)):
        return False
    for letter in range(len(stand)):
        if not is_berth(box, homes, stand, came, letter):
            return False
    return True


def is_berth(box, homes, stand, came, letter):
    """True where a letter came by a tie of its own, on no greater way than its phase, or is not under way."""
    house = stand[letter]
    if house is None:
        return came[letter] is None
    if not is_whole(came[letter]) or came[letter] not in box.tied(house):
        return False
    if box.way(house, came[letter]) > box.phase(house, homes[letter]):
        return False
    return came[letter] not in came_by_at(stand, came[:letter], house)


def came_by_at(stand, came, house):
    """By which ties the letters of a house came, of the first letters where came tells of no more."""
    return [came[letter] for letter in range(len(came)) if stand[letter] == house]


def berth(box, homes, stand):
    """What the letters of a stand may have come by, so that it is berthed."""
    came = []
    for letter, house in enumerate(stand):
        came.append(None if house is None else free_berth(box, homes, stand, came, letter))
        if house is not None and came[letter] is None:
            raise NoBerth("there is no tie left by which a letter may have come")
    return tuple(came)


def free_berth(box, homes, stand, came, letter):
    """The tie by which a letter may have come beside those that came tells of; None where there is none."""
    house = stand[letter]
    phase = box.phase(house, homes[letter])
    used = came_by_at(stand, came, house)
    free = [other for other in box.tied(house) if other not in used and box.way(house, other) <= phase]
    return max(free, key=lambda other: (box.way(house, other), -other), default=None)


def check_berthed(box, homes, stand, came):
    """Refuse what the stand is not berthed with."""
    if not is_berthed(box, homes, stand, came):
        raise NoBerth("the stand is not berthed with this")


def lane_hand(box, homes, stand, came):
    """The handing by lanes of a berthed stand."""
    check_berthed(box, homes, stand, came)
    goes = [None for home in homes]
    for house in sorted(set([stand[letter] for letter in under_way(stand)])):
        hand_from(box, homes, stand, came, house, goes)
    return tuple(goes)


def hand_from(box, homes, stand, came, house, goes):
    """The letters of a house take their ties, way by way, the last one first."""
    letters = [letter for letter in range(len(stand)) if stand[letter] == house]
    wishes = {letter: box.wish(house, homes[letter]) for letter in letters}
    ways = {other: box.way(house, other) for other in box.tied(house)}
    for way in reversed(range(len(box.sides()))):
        same_lane = [letter for letter in letters if ways[came[letter]] == way]
        lesser_lane = [letter for letter in letters if ways[came[letter]] < way]
        free = [other for other in ways if ways[other] == way]
        take_wished(wishes, same_lane, free, goes)
        keep_to_lane(came, same_lane, free, goes)
        take_wished(wishes, lesser_lane, free, goes)


def take_wished(wishes, letters, free, goes):
    """Each free tie is taken by the first of the letters that wishes for it."""
    for letter in letters:
        # A tie of a way is wished for only by letters whose phase is that way.
        if wishes[letter] in free:
            goes[letter] = wishes[letter]
            free.remove(wishes[letter])


def keep_to_lane(came, letters, free, goes):
    """Each of the letters without a tie takes the one by which it came, or else the other one."""
    for letter in letters:
        if goes[letter] is None:
            goes[letter] = came[letter] if came[letter] in free else free[0]
            free.remove(goes[letter])


def came_behind(homes, stand, handing):
    """By what the letters came that are under way behind a handing."""
    return tuple([None if goes in (None, home) else house for home, house, goes in zip(homes, stand, handing)])


def reason(box, homes, stand, came, letter):
    """The letter for which a letter is led about by lanes; None where it is not."""
    handing = lane_hand(box, homes, stand, came)
    found = None
    while is_astray(box, homes, stand, handing, letter):
        house = stand[letter]
        letter = found = taker(stand, handing, house, box.wish(house, homes[letter]))
    return found


def is_astray(box, homes, stand, handing, letter):
    """True of a letter under way that does not go where it wishes."""
    if not is_whole_within(letter, 0, len(stand) - 1) or stand[letter] is None:
        return False
    return handing[letter] != box.wish(stand[letter], homes[letter])
