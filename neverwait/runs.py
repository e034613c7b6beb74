"""Runs: letters are handed on, beat by beat, until all are home."""

from neverwait.handing import hand
from neverwait.lanes import came_behind, check_berthed, lane_hand
from neverwait.stands import stand_behind, under_way


def run(rule, net, homes, stand, most):
    """The log of a run by a rule, of at most so many handings."""
    # Ranks are refused also where nothing is handed on.
    rule.check_letters(homes)
    return log_by(homes, stand, most, lambda here, beat: hand(rule, net, homes, here, beat))


def log_by(homes, stand, most, handed):
    """The log until all are home, of at most so many handings; handed tells what is done with a stand at a beat."""
    log = []
    while len(log) < most and under_way(stand):
        log.append(handed(stand, len(log)))
        stand = stand_behind(homes, log[-1])
    return log


def lane_run(box, homes, stand, came, most):
    """The log of a run by lanes, of at most so many handings, and what letters came by at each stand."""
    # What is no berth is refused also where nothing is handed on.
    check_berthed(box, homes, stand, came)
    log = []
    cames = [came]
    while len(log) < most and under_way(stand):
        handing = lane_hand(box, homes, stand, cames[-1])
        log.append(handing)
        cames.append(came_behind(homes, stand, handing))
        stand = stand_behind(homes, handing)
    return (log, cames)
