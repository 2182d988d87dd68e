"""How often each letter stands below a row, kept at every so many rows."""

from backindex.checks import check_gap, check_place
from backindex.letters import Letters


class Marks:
    def __init__(self, letters, home, gap):
        # Made first: a wrong home is refused ahead of a wrong gap.
        self.held = Letters(letters, home)
        check_gap(gap)
        self.gap = gap
        self.marks = []
        signs = sorted(set(letters))
        for row in range(0, len(letters) + 2, gap):
            self.marks.append([(sign, self.held.before(sign, row)) for sign in signs])

    def kept(self):
        return [list(mark) for mark in self.marks]

    def before(self, sign, row):
        check_place(row, self.held.last + 1)
        below_mark = dict(self.marks[row // self.gap]).get(sign, 0)
        behind_mark = [self.held.letter(at) for at in range(row - row % self.gap, row)]
        return below_mark + behind_mark.count(sign)
