"""A sign put ahead of a text or taken off, by the text's last letters alone."""

from backindex.errors import Empty
from backindex.letters import Letters


# The new row has no letter, so it changes home alone, and not the letters.
def put_ahead(letters, home, sign):
    row = Letters(letters, home).row_with(sign, home)
    return (letters[:home] + sign + letters[home:], row)


# Home was put in last: without it the rows above it are one lower again, and the row forth of it is home.
def taken_off(letters, home):
    held = Letters(letters, home)
    if letters == "":
        raise Empty("the text has no sign")
    row = held.forth(home)
    if row > home:
        row -= 1
    return (letters[:row] + letters[row + 1:], row, letters[row])


def grown(text):
    pair = ("", 0)
    for sign in reversed(text):
        pair = put_ahead(pair[0], pair[1], sign)
    return pair
