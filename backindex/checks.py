"""What several modules ask of the numbers handed in."""

from backindex.errors import NoGap, NoPlace


# Rows and homes are refused just like places: each is a number from 0 to some last one.
def check_place(place, last):
    if place < 0 or place > last:
        raise NoPlace("there is no such place, row or home")


def check_gap(gap):
    if gap < 1:
        raise NoGap("a gap is a number from 1 on")
