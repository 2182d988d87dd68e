"""Two texts held side by side, and where a piece stands in a text."""


def common_size(one, other):
    most = min(len(one), len(other))
    size = 0
    while size < most and one[size] == other[size]:
        size += 1
    return size


# Python orders texts by their first unlike sign, and a text ahead of one that begins with it: just as point [4] does.
def comes_before(one, other):
    return one < other


def stands_at(text, piece, place):
    return text.startswith(piece, place)
