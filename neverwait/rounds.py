"""What a run comes to: home, a round without end, or neither so far."""

from neverwait.handing import hand
from neverwait.stands import stand_behind, under_way


def round_of(rule, net, homes, stand, most):
    """What a run by a rule comes to, within so many handings."""
    # Ranks are refused also where nothing is handed on.
    rule.check_letters(homes)
    beat = 0
    seen = {}
    while under_way(stand):
        # What comes behind hangs on these two alone: so the first that is there again begins the round.
        here = (stand, beat % rule.period(homes))
        if here in seen:
            return ("round", seen[here], beat - seen[here])
        if beat >= most:
            return ("on",)
        seen[here] = beat
        stand = stand_behind(homes, hand(rule, net, homes, stand, beat))
        beat += 1
    return ("home", beat)
