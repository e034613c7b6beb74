"""Logs: what was handed on, beat by beat, and what became of each letter."""

from neverwait.eager import is_led
from neverwait.kinds import is_whole_within
from neverwait.stands import stand_behind


def stands_of(homes, stand, log):
    """The stands of a log that begins with this one, where no letter is let in."""
    return [stand] + [stand_behind(homes, handing) for handing in log]


def is_handed_on(stands, log, letter, beat):
    """True where a letter is under way at a beat of the log; not of what is no letter or no such beat."""
    if not is_whole_within(beat, 0, len(log) - 1):
        return False
    return is_whole_within(letter, 0, len(stands[beat]) - 1) and stands[beat][letter] is not None


def beats_under_way(stands, log, letter):
    """The beats of the log at which a letter is under way."""
    return [beat for beat in range(len(log)) if is_handed_on(stands, log, letter, beat)]


def home_at(homes, stands, log, letter):
    """How many handings were done when a letter came home; None where it does not."""
    for beat in beats_under_way(stands, log, letter):
        if log[beat][letter] == homes[letter]:
            return beat + 1
    return None


def led_at(net, homes, stands, log, letter):
    """The beats at which a letter was led about."""
    beats = beats_under_way(stands, log, letter)
    return [beat for beat in beats if is_led(net, homes, stands[beat], log[beat], letter)]


def waited_at(stands, log, letter):
    """The beats at which a letter waited."""
    beats = beats_under_way(stands, log, letter)
    return [beat for beat in beats if log[beat][letter] == stands[beat][letter]]
