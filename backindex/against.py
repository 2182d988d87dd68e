"""What another text has in common with a text."""

from backindex.letters import letters_of
from backindex.texts import comes_before


# Each piece that ends at the place is the one before with a sign put ahead; where one of them stands nowhere, no longer
# one does.
def longest_ending(held, other, place):
    size = 0
    rows = (0, held.last + 1)
    while size < place:
        fewer = held.rows_with(other[place - size - 1], rows)
        if fewer[0] == fewer[1]:
            break
        rows = fewer
        size += 1
    return (size, rows[0], rows[1])


def held_against(text, other):
    held = letters_of(text)
    return [longest_ending(held, other, place) for place in range(len(other) + 1)]


def fewest_pieces(text, other):
    held = letters_of(text)
    pieces = []
    end = len(other)
    while end > 0:
        size = max(1, longest_ending(held, other, end)[0])
        pieces.append(other[end - size:end])
        end -= size
    return list(reversed(pieces))


def longest_in_both(one, other):
    longest = ""
    for place, found in enumerate(held_against(one, other)):
        piece = other[place - found[0]:place]
        as_long = len(piece) == len(longest)
        if len(piece) > len(longest) or as_long and comes_before(piece, longest):
            longest = piece
    return longest
