"""Letters let in one behind another, by a plan."""

from neverwait.errors import NoPlan
from neverwait.handing import hand
from neverwait.kinds import are_unlike_houses, is_row, is_whole
from neverwait.lanes import came_behind, free_berth, lane_hand
from neverwait.stands import stand_behind, under_way


def let_in_run(rule, net, plan, most):
    """The entries, the log and the stands of a run by a rule, of at most so many handings."""
    check_plan(net.many(), plan)
    homes = tuple([home for beat, start, home in plan])
    # Ranks are refused also where nothing is handed on.
    rule.check_letters(homes)
    entries = [None for row in plan]
    log = []
    stands = []
    stand = tuple(entries)
    while len(log) < most and is_unfinished(entries, stand):
        stand = let_in(plan, entries, len(log), stand, lambda here, letter: enter(net, plan, here, letter))
        stands.append(stand)
        log.append(hand(rule, net, homes, stand, len(log)))
        stand = stand_behind(homes, log[-1])
    stands.append(stand)
    return (entries, log, stands)


def let_in_lanes(box, plan, most):
    """The entries, the log and the stands of a run by lanes, and what letters came by at each stand."""
    check_plan(box.net().many(), plan)
    homes = tuple([home for beat, start, home in plan])
    entries = [None for row in plan]
    log = []
    stands = []
    cames = []
    stand = came = tuple(entries)
    while len(log) < most and is_unfinished(entries, stand):
        stand, came = let_in(plan, entries, len(log), (stand, came),
                             lambda state, letter: enter_lane(box, homes, plan, state, letter))
        stands.append(stand)
        cames.append(came)
        log.append(lane_hand(box, homes, stand, came))
        came = came_behind(homes, stand, log[-1])
        stand = stand_behind(homes, log[-1])
    stands.append(stand)
    cames.append(came)
    return (entries, log, stands, cames)


def check_plan(many, plan):
    """Refuse what is no plan for so many houses."""
    if not isinstance(plan, list):
        raise NoPlan("a plan is a list")
    earliest = 0
    for row in plan:
        if not is_row(row, 3):
            raise NoPlan("a letter's row is a tuple of its beat, its start and its home")
        beat, start, home = row
        if not is_whole(beat) or beat < earliest:
            raise NoPlan("the beats are whole numbers from 0 on that never fall")
        if not are_unlike_houses(many, start, home):
            raise NoPlan("start and home are two unlike houses")
        earliest = beat


def is_unfinished(entries, stand):
    """True where a letter is not in yet, or not home."""
    return None in entries or len(under_way(stand)) > 0


def let_in(plan, entries, beat, state, entering):
    """The state with the letters that are let in ahead of a beat's handing; their entries are set.

    entering tells, of a state and a letter, the state with that letter in it; None where there is no room.
    """
    for letter, row in enumerate(plan):
        if entries[letter] is None:
            entered = entering(state, letter) if row[0] <= beat else None
            # Behind one that is not let in none is.
            if entered is None:
                return state
            entries[letter] = beat
            state = entered
    return state


def enter(net, plan, stand, letter):
    """The stand with a letter at its start; None where as many are there as ties lead out."""
    start = plan[letter][1]
    if stand.count(start) >= len(net.out(start)):
        return None
    return replaced(stand, letter, start)


def enter_lane(box, homes, plan, state, letter):
    """A stand and what letters came by, with a letter at its start; None where it finds no tie."""
    stand, came = state
    stand = replaced(stand, letter, plan[letter][1])
    tie = free_berth(box, homes, stand, came, letter)
    if tie is None:
        return None
    return (stand, replaced(came, letter, tie))


def replaced(row, at, thing):
    """The row with another thing in one place."""
    return row[:at] + (thing,) + row[at + 1:]
