"""Where a piece stands in a text, found by the text's last letters."""

from backindex.checks import check_gap, check_place
from backindex.errors import NoPlace
from backindex.letters import letters_of
from backindex.order import order_of


class Finder:
    def __init__(self, text, gap=4):
        check_gap(gap)
        self.held = letters_of(text)
        self.gap = gap
        self.known = {}
        for row, place in enumerate(order_of(text)):
            if place % gap == 0:
                self.known[row] = place

    def rows(self, piece):
        found = (0, self.held.last + 1)
        for sign in reversed(piece):
            found = self.held.rows_with(sign, found)
        return found

    # The place 0 is known whatever the gap: so the walk ends at home at the latest.
    def walk(self, row):
        check_place(row, self.held.last)
        steps = 0
        while row not in self.known:
            row = self.held.back(row)
            steps += 1
        return (self.known[row] + steps, steps)

    def count(self, piece):
        found = self.rows(piece)
        return found[1] - found[0]

    def places(self, piece):
        found = self.rows(piece)
        return sorted([self.walk(row)[0] for row in range(found[0], found[1])])

    def row_at(self, place):
        check_place(place, self.held.last)
        steps = place % self.gap
        row = [kept for kept in self.known if self.known[kept] == place - steps][0]
        for step in range(steps):
            row = self.held.forth(row)
        return row

    # Row 0 is that of the ending without signs: there nothing is left.
    def piece_at(self, place, size):
        row = self.row_at(place)
        if size < 0:
            raise NoPlace("a size is a number from 0 on")
        signs = []
        while row != 0 and len(signs) < size:
            row = self.held.forth(row)
            signs.append(self.held.letter(row))
        return "".join(signs)
