"""Runs: letters are handed on, beat by beat, until all are home."""

from neverwait.handing import hand
from neverwait.lanes import came_behind, check_berthed, lane_hand
from neverwait.stands import stand_behind, under_way


def run(rule, net, homes, stand, most):
    """The log of a run by a rule, of at most so many handings."""
    # Ranks are refused also where nothing is handed on.
    rule.check_letters(homes)
    log = []
    while len(log) < most and under_way(stand):
        handing = hand(rule, net, homes, stand, len(log))
        log.append(handing)
        stand = stand_behind(homes, handing)
    return log


def lane_run(box, homes, stand, came, most):
    """The log of a run by lanes, of at most so many handings, and what letters came by at each stand."""
    # What is no berth is refused also where nothing is handed on.
    check_berthed(box, homes, stand, came)
    log = []
    cames = [came]
    while len(log) < most and under_way(stand):
        handing = lane_hand(box, homes, stand, cames[-1])
        log.append(handing)
        cames.append(came_behind(homes, stand, handing))
        stand = stand_behind(homes, handing)
    return (log, cames)
