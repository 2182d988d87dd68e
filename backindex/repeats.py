"""What comes again in a text, read off endings that stand side by side in the order."""

from backindex.checks import check_place
from backindex.errors import NoTimes
from backindex.order import order_of
from backindex.texts import common_size


def shared_size(text, one, other):
    check_place(one, len(text))
    check_place(other, len(text))
    return common_size(text[one:], text[other:])


def commons_of(text):
    order = order_of(text)
    return [0] + [shared_size(text, one, other) for one, other in zip(order, order[1:])]


# Endings that begin with the same piece stand side by side: so it is enough to look at the first and the last of each
# so many rows. Of pieces as long, the one that comes first is met first.
def longest_often(text, times=2):
    if times < 1:
        raise NoTimes("a piece is asked for that stands at least once")
    order = order_of(text)
    if times > len(order):
        return None
    longest = ""
    for one, other in zip(order, order[times - 1:]):
        size = shared_size(text, one, other)
        if size > len(longest):
            longest = text[one:one + size]
    return longest


# No ending shares more with another one than with a neighbour.
def lone_sizes(text):
    # Its only place is the only one, too, where the piece without signs stands alone.
    if text == "":
        return [0]
    sizes = [None] * (len(text) + 1)
    commons = commons_of(text) + [0]
    for row, place in enumerate(order_of(text)):
        size = 1 + max(commons[row], commons[row + 1])
        if place + size <= len(text):
            sizes[place] = size
    return sizes


# The pieces with which an ending begins are new but for those that it shares with the ending ahead.
def kinds_in(text):
    return 1 + sum([len(text) - place - common for place, common in zip(order_of(text), commons_of(text))])
