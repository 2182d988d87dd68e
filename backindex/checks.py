"""What several modules ask of the numbers handed in."""

from backindex.errors import NoGap, NoPlace, NoRow

# So many signs a kept text has at most, and so many letters what is unpacked.
MOST_SIGNS = 300


# Rows and homes are refused just like places: each is a number from 0 to some last one.
def check_place(place, last):
    if place < 0 or place > last:
        raise NoPlace("there is no such place, row or home")


def check_gap(gap):
    if gap < 1:
        raise NoGap("a gap is a number from 1 on")


# The bound is that of a row's number. It serves packed letters, too: more figures would tell far too many of them.
def number_in(word):
    if len(word) < 1 or len(word) > 9 or word.strip("0123456789") != "":
        raise NoRow("a number is one to nine figures")
    if word[0] == "0" and word != "0":
        raise NoRow("a number has no nought ahead")
    return int(word)
