"""The order of a text's endings, and the rows of an order."""

from backindex.errors import NoOrder


# No two endings are alike, since each has a size of its own: so sorting leaves nothing open.
def order_of(text):
    return sorted(range(len(text) + 1), key=lambda place: text[place:])


# A list of n numbers from 0 to n - 1 with none of them twice has each of them: so none left out is looked for.
def rows_of(order):
    rows = [None] * len(order)
    for row, place in enumerate(order):
        if place < 0 or place >= len(order):
            raise NoOrder(f"the number at {row} is none from 0 to the list's length less 1")
        if rows[place] is not None:
            raise NoOrder(f"the number at {row} stands in the list twice")
        rows[place] = row
    return rows
