"""What kind of thing was handed in.

A thing may be anything: its kind is made sure of before it is compared or looked up.
"""


def is_whole(thing):
    """True of a whole number: an int that is neither True nor False."""
    return isinstance(thing, int) and not isinstance(thing, bool)


def is_whole_within(thing, least, most):
    """True of a whole number from least to most."""
    return is_whole(thing) and least <= thing <= most


def is_house(many, thing):
    """True of the number of one of so many houses."""
    return is_whole_within(thing, 0, many - 1)


def are_unlike_houses(many, one, other):
    """True of two unlike ones of so many houses."""
    return is_house(many, one) and is_house(many, other) and one != other


def is_row(thing, length):
    """True of a tuple with so many things."""
    return isinstance(thing, tuple) and len(thing) == length
