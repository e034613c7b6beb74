"""How much is left to do at a stand, and how many others come home."""

from neverwait.logs import beats_under_way, home_at
from neverwait.stands import under_way


def measure(net, homes, stand):
    """The measure of a stand; 0 where none is under way."""
    distances = [net.far(stand[letter], homes[letter]) for letter in under_way(stand)]
    # Between two of the distances as many letters count, so only these themselves can be the greatest.
    return max([far + 2 * farther for farther, far in enumerate(sorted(distances, reverse=True))], default=0)


def elder_bound(net, homes, stand, letter):
    """Within how many beats a letter under way is home, by elder and in turn."""
    letters = under_way(stand)
    first = letters[0]
    return net.far(stand[first], homes[first]) + net.span() * letters.index(letter)


def others(homes, stands, log, letter):
    """How many other letters come home by the handing at which a letter is first under way, or later."""
    beats = beats_under_way(stands, log, letter)
    if not beats:
        return 0
    arrivals = [home_at(homes, stands, log, other) for other in range(len(homes)) if other != letter]
    return len([done for done in arrivals if done is not None and done > beats[0]])
