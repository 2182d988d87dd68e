import unittest

from backindex.against import fewest_pieces, held_against, longest_in_both
from helper import (
    FEW_SIGNS, LONG, LONG_TEXTS, SHORT_ROWS, SIGNS, TEXTS, all_texts, looked_places, looked_rows, pieces_of, sort_key,
)

SHORT_PAIRS = [(text, other) for text in all_texts("ab", 4) for other in all_texts("abc", 4)]
SHORT_PAIRS += [(text, other) for text in all_texts(" a~", 3) for other in all_texts(" a~", 3)]
MIDDLE_PAIRS = [(text, other) for text in TEXTS[:20] for other in TEXTS[:20]]
MIDDLE_PAIRS += [(row * 7, other * 6) for row in SHORT_ROWS for other in SHORT_ROWS]


def looked_held(text, other, place):
    for size in range(place, -1, -1):
        piece = other[place - size:place]
        if looked_places(text, piece):
            return (size,) + looked_rows(text, piece)


def looked_cut(text, other):
    pieces = []
    while other:
        size = max([size for size in range(len(other) + 1) if other[len(other) - size:] in text] + [1])
        pieces = [other[len(other) - size:]] + pieces
        other = other[:len(other) - size]
    return pieces


def least_many(text, other):
    """The least number of pieces, found by trying every last piece of every beginning of the other text."""
    least = [0]
    for end in range(1, len(other) + 1):
        ways = [least[start] for start in range(end) if end - start == 1 or other[start:end] in text]
        least.append(1 + min(ways))
    return least[-1]


def looked_both(one, other):
    both = pieces_of(one) & pieces_of(other)
    return min(both, key=lambda piece: (-len(piece), sort_key(piece)))


class HeldAgainst(unittest.TestCase):
    def check(self, text, other):
        told = held_against(text, other)
        self.assertEqual(told, [looked_held(text, other, place) for place in range(len(other) + 1)], (text, other))
        self.assertIs(type(told), list)
        for found in told:
            self.assertEqual([type(found)] + [type(number) for number in found], [tuple, int, int, int])

    def test_told_tuples(self):
        self.assertEqual(held_against("banana", "nab"), [(0, 0, 7), (1, 5, 7), (2, 5, 7), (1, 4, 5)])
        self.assertEqual(held_against("banana", "anx"), [(0, 0, 7), (1, 1, 4), (2, 2, 4), (0, 0, 7)])

    def test_short_texts(self):
        for text, other in SHORT_PAIRS:
            self.check(text, other)

    def test_longer_texts(self):
        for text, other in MIDDLE_PAIRS:
            self.check(text, other)

    def test_signs_that_stand_nowhere_in_the_text(self):
        self.assertEqual(held_against("banana", "xyz"), [(0, 0, 7)] * 4)
        self.check("banana", "anxan nab~ban")
        self.check("".join(SIGNS[::2]), "".join(SIGNS))

    def test_the_text_without_signs_on_either_side(self):
        self.assertEqual(held_against("", ""), [(0, 0, 1)])
        self.assertEqual(held_against("", "banana"), [(0, 0, 1)] * 7)
        self.assertEqual(held_against("banana", ""), [(0, 0, 7)])

    def test_a_text_against_itself(self):
        for text in TEXTS:
            told = held_against(text, text)
            self.assertEqual([found[0] for found in told], list(range(len(text) + 1)))
            self.check(text, text)

    def test_three_hundred_signs(self):
        self.check("ab" * 150, "ba" * 20)
        self.check(LONG, LONG[100:120] + LONG[7:20])
        told = held_against("a" * 300, "a" * 300)
        self.assertEqual(told, [(size, size, 301) for size in range(301)])
        for text in LONG_TEXTS:
            self.assertEqual(held_against(text, text)[300], (300,) + looked_rows(text, text))

    def test_told_lists_are_the_askers_own(self):
        held = held_against("banana", "nab")
        told = held_against("banana", "nab")
        told.append((9, 9, 9))
        told[0] = (8, 8, 8)
        held_against("banana", "ban")
        asked = [(0, 0, 7), (1, 5, 7), (2, 5, 7), (1, 4, 5)]
        self.assertEqual(held, asked)
        self.assertEqual(held_against("banana", "nab"), asked)


class FewestPieces(unittest.TestCase):
    def check(self, text, other):
        told = fewest_pieces(text, other)
        self.assertEqual(told, looked_cut(text, other), (text, other))
        self.assertEqual("".join(told), other)
        self.assertEqual(len(told), least_many(text, other), (text, other))
        self.assertIs(type(told), list)
        self.assertTrue(all(type(piece) is str for piece in told))

    def test_told_pieces(self):
        self.assertEqual(fewest_pieces("banana", "nabanx"), ["na", "ban", "x"])
        self.assertEqual(fewest_pieces("abc", "ab"), ["ab"])
        self.assertEqual(fewest_pieces("abbc", "abbbc"), ["ab", "bbc"])
        self.assertEqual(fewest_pieces("banana", "xxan"), ["x", "x", "an"])

    def test_short_texts(self):
        for text, other in SHORT_PAIRS:
            self.check(text, other)

    def test_longer_texts(self):
        for text, other in MIDDLE_PAIRS:
            self.check(text, other)

    def test_signs_that_stand_nowhere_in_the_text(self):
        self.assertEqual(fewest_pieces("banana", "xyx"), ["x", "y", "x"])
        self.check("banana", "anxan nab~ban")

    def test_the_text_without_signs_on_either_side(self):
        self.assertEqual(fewest_pieces("", ""), [])
        self.assertEqual(fewest_pieces("banana", ""), [])
        self.assertEqual(fewest_pieces("", "aab"), ["a", "a", "b"])

    def test_a_text_against_itself(self):
        for text in TEXTS[1:] + LONG_TEXTS:
            self.assertEqual(fewest_pieces(text, text), [text])

    def test_three_hundred_signs(self):
        self.check(FEW_SIGNS, "ab~" * 100)
        self.check("ab~" * 100, FEW_SIGNS)
        self.check("ab" * 3, "ab" * 150)
        self.assertEqual(fewest_pieces("b", "a" * 300), ["a"] * 300)

    def test_told_lists_are_the_askers_own(self):
        for other, asked in (("nabanx", ["na", "ban", "x"]), ("", [])):
            held = fewest_pieces("banana", other)
            told = fewest_pieces("banana", other)
            told.append("more")
            told[0] = "other"
            fewest_pieces("banana", "ban")
            self.assertEqual(held, asked)
            self.assertEqual(fewest_pieces("banana", other), asked)


class LongestInBoth(unittest.TestCase):
    def check(self, one, other):
        told = longest_in_both(one, other)
        self.assertEqual(told, looked_both(one, other), (one, other))
        self.assertIs(type(told), str)

    def test_told_pieces(self):
        self.assertEqual(longest_in_both("banana", "cabana"), "bana")
        self.assertEqual(longest_in_both("banana", "ananas"), "anana")
        self.assertEqual(longest_in_both("banana", "xyz"), "")

    def test_short_texts(self):
        for one, other in SHORT_PAIRS:
            self.check(one, other)

    def test_longer_texts(self):
        for one, other in MIDDLE_PAIRS:
            self.check(one, other)

    def test_of_pieces_as_long_the_one_that_comes_first(self):
        for one, other in (("cdxab", "abycd"), ("abxcd", "cdyab"), ("abxcd", "abycd"), ("cdxab", "cdyab")):
            self.assertEqual(longest_in_both(one, other), "ab")
        self.assertEqual(longest_in_both("".join(SIGNS), "".join(reversed(SIGNS))), " ")
        self.assertEqual(longest_in_both("~x", "x~"), "x")

    def test_the_text_without_signs_on_either_side(self):
        for one, other in (("", ""), ("", "banana"), ("banana", "")):
            self.assertEqual(longest_in_both(one, other), "")

    def test_a_text_and_itself(self):
        for text in TEXTS + LONG_TEXTS:
            self.assertEqual(longest_in_both(text, text), text)

    def test_three_hundred_signs(self):
        self.assertEqual(longest_in_both("a" * 299 + "b", "b" + "a" * 299), "a" * 299)
        self.assertEqual(longest_in_both(LONG, "~" + LONG[50:120] + "~"), looked_both(LONG, "~" + LONG[50:120] + "~"))


if __name__ == "__main__":
    unittest.main()
