"""The text again, from its last letters."""

from backindex.errors import NoText
from backindex.letters import Letters


# Row 0 is back of no row, and each other row of just one: so no row comes twice, and the road gets to home.
def road_of(letters, home):
    held = Letters(letters, home)
    row = 0
    road = [row]
    while row != home:
        row = held.back(row)
        road.append(row)
    return road


def read_back(letters, home):
    road = road_of(letters, home)
    if len(road) != len(letters) + 1:
        raise NoText("these are no text's last letters")
    held = Letters(letters, home)
    signs = [held.letter(row) for row in road if row != home]
    return "".join(reversed(signs))
