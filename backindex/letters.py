"""The letters ahead of a text's endings, and the rows to which they lead."""

from backindex.checks import check_place
from backindex.order import order_of
from backindex.texts import comes_before

# Stands in home's place. It is no sign, so nobody asks for it, and it comes before each sign.
NO_LETTER = "\n"


def last_letters(text):
    order = order_of(text)
    letters = "".join([text[place - 1] for place in order if place > 0])
    return (letters, order.index(0))


class Letters:
    def __init__(self, letters, home):
        check_place(home, len(letters))
        column = letters[:home] + NO_LETTER + letters[home:]
        self.column = column
        self.home = home
        self.last = len(letters)
        self.totals = [(sign, letters.count(sign)) for sign in sorted(set(letters))]
        # Sorting leaves rows of the same letter in their order, so each row comes to stand at the row back of it; home,
        # which has none, takes the number 0, which is back of no row.
        self.forths = sorted(range(len(column)), key=lambda row: column[row])

    def letter(self, row):
        check_place(row, self.last)
        if row == self.home:
            return None
        return self.column[row]

    def first(self, sign):
        return 1 + sum([many for letter, many in self.totals if comes_before(letter, sign)])

    def before(self, sign, row):
        check_place(row, self.last + 1)
        return self.column.count(sign, 0, row)

    # Where an ending would stand, or stands, that is the sign and behind it the ending at the row.
    def row_with(self, sign, row):
        return self.first(sign) + self.before(sign, row)

    # Of the rows of a piece, as a pair (low, high), those of the piece with the sign put ahead of it.
    def rows_with(self, sign, rows):
        return (self.row_with(sign, rows[0]), self.row_with(sign, rows[1]))

    def back(self, row):
        sign = self.letter(row)
        if sign is None:
            return None
        return self.row_with(sign, row)

    def forth(self, row):
        check_place(row, self.last)
        if row == 0:
            return None
        return self.forths[row]


def letters_of(text):
    pair = last_letters(text)
    return Letters(pair[0], pair[1])
