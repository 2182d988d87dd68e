"""What several test files share: texts to try, and answers found by looking through a text from place to place."""

from itertools import product

from backindex import errors

SIGNS = [chr(code) for code in range(ord(" "), ord("~") + 1) if chr(code) != "%"]
RANK = {sign: at for at, sign in enumerate(SIGNS)}
LONG = "".join(SIGNS[(7 * at + at * at // 3) % len(SIGNS)] for at in range(300))
FEW_SIGNS = "".join("ab~"[at * at * at // 7 % 3] for at in range(300))
SHORT_ROWS = ("ab", "ba", "aab", "abc", "cab", " ~", "~ ", "abaab")
TEXTS = (
    ["", "a", " ", "~", "ab", "ba", "aa", "banana", "mississippi", "abracadabra", "aaaaaaaa", "~ ~; 0;9"]
    + [row * 5 for row in SHORT_ROWS]
    + ["".join(SIGNS), "".join(reversed(SIGNS))]
)
LONG_TEXTS = [LONG, FEW_SIGNS, "a" * 300, "ab" * 150, "a" * 299 + "b", "b" + "a" * 299]

NAMES = ("NoOrder", "NoPlace", "NoGap", "NoText", "NoTimes", "Empty", "TooLong", "NoName", "NoRow")
# Numbers of up to three hundred figures.
GREATS = [10 ** figures - 1 for figures in (5, 10, 19, 20, 100, 300)]


def all_texts(signs, most):
    return ["".join(row) for size in range(most + 1) for row in product(signs, repeat=size)]


def assert_refused(test, refusal, call, *handed):
    """The call is refused: taken by its own class, BackError and ValueError, and by none of the other refusals."""
    own = getattr(errors, refusal)
    others = tuple(getattr(errors, name) for name in NAMES if name != refusal)
    for taker in (own, errors.BackError, ValueError):
        try:
            told = call(*handed)
        except others as taken:
            test.fail(f"{handed}: refused with {type(taken).__name__} in the place of {refusal}")
        except taker as taken:
            test.assertIs(type(taken), own, handed)
        else:
            test.fail(f"{handed}: not refused with {refusal}, told {told!r}")


def sort_key(text):
    """Python orders lists of numbers as point [4] orders texts."""
    return [RANK[sign] for sign in text]


def looked_order(text):
    return sorted(range(len(text) + 1), key=lambda place: sort_key(text[place:]))


def looked_letters(text):
    order = looked_order(text)
    return "".join(text[place - 1] for place in order if place != 0), order.index(0)


def looked_stands(text, piece, place):
    if len(piece) > len(text) - place:
        return False
    return all(text[place + at] == piece[at] for at in range(len(piece)))


def looked_places(text, piece):
    return [place for place in range(len(text) + 1) if looked_stands(text, piece, place)]


def pairs_of(signs, most):
    """Each short text of these signs, with every home that it can have."""
    return [(letters, home) for letters in all_texts(signs, most) for home in range(len(letters) + 1)]


def looked_rows(text, piece):
    less = [place for place in range(len(text) + 1) if sort_key(text[place:]) < sort_key(piece)]
    return len(less), len(less) + len(looked_places(text, piece))


def pieces_of(text):
    """Every unlike piece that stands in the text."""
    ends = range(len(text) + 1)
    return {text[start:end] for start in ends for end in ends if start <= end}
