"""Last letters written as a short text, and read again."""

from backindex.checks import MOST_SIGNS, check_place, number_in
from backindex.errors import NoRow


def runs_of(text):
    runs = []
    start = 0
    for place in range(1, len(text) + 1):
        if place == len(text) or text[place] != text[start]:
            runs.append((text[start], place - start))
            start = place
    return runs


def packed(letters, home):
    check_place(home, len(letters))
    runs = [f"{sign}{many};" for sign, many in runs_of(letters)]
    return f"{home} " + "".join(runs)


# A run's sign may be a `;` itself: so its end is looked for behind the sign.
def read_runs(text):
    runs = []
    start = 0
    while start < len(text):
        end = text.find(";", start + 1)
        if end < 0:
            raise NoRow("a run has no end")
        runs.append((text[start], number_in(text[start + 1:end])))
        start = end + 1
    return runs


def unpacked(text):
    words = text.partition(" ")
    home = number_in(words[0])
    runs = read_runs(words[2])
    # Asked ahead of writing the runs out, which may be far too long.
    if sum([many for sign, many in runs]) > MOST_SIGNS:
        raise NoRow("there are too many letters")
    letters = "".join([sign * many for sign, many in runs])
    # What is packed otherwise than these letters are (no blank, a run of 0, two runs of one sign) is not packed.
    if home > len(letters) or packed(letters, home) != text:
        raise NoRow("these are no packed letters")
    return (letters, home)
