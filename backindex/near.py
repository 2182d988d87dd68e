"""Where a piece nearly stands in a text."""


def unlike_signs(piece, other):
    return len([sign for sign, beside in zip(piece, other) if sign != beside])


def near_places(text, piece, slips):
    found = []
    for place in range(len(text) - len(piece) + 1):
        wrong = unlike_signs(piece, text[place:place + len(piece)])
        if wrong <= slips:
            found.append((place, wrong))
    return found
