"""Boxes: nets whose houses have places, and the ways along which letters get home in them."""

from neverwait.errors import NoHouse, NoTie
from neverwait.kinds import is_house, is_row
from neverwait.shapes import are_tied, box_net


class Box:
    """A box by its sides."""

    def __init__(self, sides):
        self.tied_net = box_net(sides)
        self.side_row = tuple(sides)

    def net(self):
        """The net of the box."""
        return box_net(self.side_row)

    def sides(self):
        """The sides."""
        return self.side_row

    def place(self, house):
        """The place of a house."""
        self.tied_net.check_house(house)
        numbers = []
        for side in self.side_row:
            numbers.append(house % side)
            house //= side
        return tuple(numbers)

    def house(self, place):
        """The house at a place."""
        if not is_row(place, len(self.side_row)):
            raise NoHouse("a place is a tuple of as many numbers as the box has sides")
        total = 0
        step = 1
        for number, side in zip(place, self.side_row):
            # A side's numbers are limited just like those of so many houses.
            if not is_house(side, number):
                raise NoHouse("a number of this place is none of its side")
            total += step * number
            step *= side
        return total

    def tied(self, house):
        """The houses tied with a house."""
        return self.tied_net.out(house)

    def way(self, one, other):
        """In which number the places of two tied houses are unlike."""
        if not are_tied(self.tied_net, one, other):
            raise NoTie("these two are not tied")
        return self.phase(one, other)

    def phase(self, house, home):
        """The least way along which a letter is not at home yet; None at home."""
        here = self.place(house)
        there = self.place(home)
        for k in range(len(here)):
            if here[k] != there[k]:
                return k
        return None

    def wish(self, house, home):
        """The next house towards home on the way that is the letter's phase; None at home."""
        k = self.phase(house, home)
        if k is None:
            return None
        numbers = list(self.place(house))
        numbers[k] += 1 if numbers[k] < self.place(home)[k] else -1
        return self.house(tuple(numbers))
