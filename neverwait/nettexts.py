"""A net as a text, and back."""

from neverwait.errors import NoNet, NoText
from neverwait.nets import Net


def net_text(net):
    """The text of a net."""
    ties = net.ties()
    words = ["net", str(net.many())]
    for one, other in ties:
        if (other, one) not in ties:
            words.append(f"{one}>{other}")
        elif one < other:
            words.append(f"{one}-{other}")
    return " ".join(words)


def read_net(text):
    """The net of which this is the text."""
    if not isinstance(text, str):
        raise NoText("this is no text")
    net = net_of_words(text.split(" "))
    # A net has just one text: whatever else could be read as the same net is refused here.
    if net_text(net) != text:
        raise NoText("this is not how the net is written")
    return net


def net_of_words(words):
    """The net that the words tell, read without regard to their order."""
    if len(words) < 2:
        raise NoText("the number of houses is missing")
    ties = []
    for word in words[2:]:
        ties.extend(ties_of_word(word))
    try:
        return Net(number_of_word(words[1]), ties)
    except NoNet:
        raise NoText("this tells no net") from None


def ties_of_word(word):
    """The ties that a word tells: two, where it tells a two-way one."""
    if "-" in word:
        first, sign, last = word.partition("-")
    else:
        first, sign, last = word.partition(">")
    one = number_of_word(first)
    other = number_of_word(last)
    if sign == "-":
        return [(one, other), (other, one)]
    return [(one, other)]


def number_of_word(word):
    """The number that a word of one or two plain figures tells; None of other words, which is no house."""
    # Numbers in a net's text are at most 32; more figures are not reckoned at all.
    if len(word) > 2 or not word.isascii() or not word.isdigit():
        return None
    return int(word)
