"""Letters that are led about, and handings that lead none about without need."""


def led(net, homes, stand, handing):
    """The letters, by number, that go to another house and come no nearer to their homes."""
    return [letter for letter in range(len(homes)) if is_led(net, homes, stand, handing, letter)]


def is_led(net, homes, stand, handing, letter):
    """True of a letter that goes to another house and comes no nearer to its home."""
    house = stand[letter]
    goes = handing[letter]
    if goes is None or goes == house:
        return False
    return net.far(goes, homes[letter]) >= net.far(house, homes[letter])


def is_eager(net, homes, stand, handing):
    """True where each tie good for a letter that is led about is taken by one that is not."""
    led_letters = led(net, homes, stand, handing)
    nearing = [(stand[letter], handing[letter]) for letter in range(len(homes)) if letter not in led_letters]
    for letter in led_letters:
        house = stand[letter]
        if any([(house, other) not in nearing for other in net.good(house, homes[letter])]):
            return False
    return True
