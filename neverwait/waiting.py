"""Letters that wait, in a box whose houses have room for all."""

from neverwait.runs import log_by
from neverwait.stands import under_way


def wait_hand(box, homes, stand):
    """Where the letters of a stand go; those that wait stay at their own houses."""
    goes = list(stand)
    taken = {}
    for letter in under_way(stand):
        tie = (stand[letter], box.wish(stand[letter], homes[letter]))
        if tie not in taken:
            taken[tie] = True
            goes[letter] = tie[1]
    return tuple(goes)


def wait_run(box, homes, stand, most):
    """The log of a run in which letters wait, of at most so many handings."""
    return log_by(homes, stand, most, lambda here, beat: wait_hand(box, homes, here))
