"""Boxes mirrored along some of their ways."""


def mirrored(box, ways, house):
    """The house to which a house goes."""
    numbers = []
    for k, (side, number) in enumerate(zip(box.sides(), box.place(house))):
        numbers.append(side - 1 - number if k in ways else number)
    return box.house(tuple(numbers))


def mirrored_row(box, ways, row):
    """A row of houses and None, each house mirrored."""
    return tuple([None if house is None else mirrored(box, ways, house) for house in row])
