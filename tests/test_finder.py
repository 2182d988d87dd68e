import unittest

from backindex.finder import Finder
from helper import (
    FEW_SIGNS, GREATS, LONG, LONG_TEXTS, TEXTS, all_texts, assert_refused, looked_order, looked_places, looked_rows,
    pieces_of,
)

SHORT_TEXTS = all_texts("ab", 5) + all_texts(" a~", 3)
BAD_NUMBERS = [-1, -2, -7] + [-great for great in GREATS]


def gaps_for(text):
    return [1, 2, 3, max(1, len(text)), len(text) + 1, len(text) + 2] + GREATS


def pieces_for(text):
    """Pieces that stand in the text and such as don't: lesser than all, greater than all, too long, nearly there."""
    more = ["", " ", "~", "!", "  ", "~~", "a", "b", "ab", "ba", text, text + "a", text + " ", "~" + text]
    some = [text[start:start + size] for start in range(0, len(text), 3) for size in (1, 2, 3, 7)]
    return more + some + [piece[:-1] + "m" for piece in some] + ["m" + piece[1:] for piece in some]


class Rows(unittest.TestCase):
    def test_told_rows(self):
        finder = Finder("banana")
        for piece, rows in (
            ("a", (1, 4)), ("ana", (2, 4)), ("banana", (4, 5)), ("n", (5, 7)), ("", (0, 7)), (" ", (1, 1)),
            ("z", (7, 7)), ("bananas", (5, 5)), ("ab", (2, 2)), ("m", (5, 5)), ("ann", (4, 4)),
            ("aaa", (2, 2)), ("nb", (7, 7)),
        ):
            self.assertEqual(finder.rows(piece), rows, piece)

    def test_all_short_texts_and_pieces(self):
        pieces = all_texts("ab", 3) + all_texts(" a~", 3)
        for text in SHORT_TEXTS:
            finder = Finder(text)
            for piece in pieces:
                self.assertEqual(finder.rows(piece), looked_rows(text, piece), (text, piece))

    def test_pieces_that_stand_often_once_and_nowhere(self):
        for text in TEXTS:
            finder = Finder(text)
            for piece in pieces_for(text):
                self.assertEqual(finder.rows(piece), looked_rows(text, piece), (text, piece))

    def test_texts_of_three_hundred_signs(self):
        for text in LONG_TEXTS:
            finder = Finder(text)
            for piece in ("", " ", "~", "a", "b", "ab", "aa", text[100:120], text[:299], text[1:], text, text + "a"):
                self.assertEqual(finder.rows(piece), looked_rows(text, piece))

    def test_no_gap_makes_another_answer(self):
        for gap in gaps_for("banana"):
            self.assertEqual(Finder("banana", gap).rows("an"), (2, 4))

    def test_kinds(self):
        for piece in ("", "an", "x"):
            told = Finder("banana").rows(piece)
            self.assertEqual([type(told)] + [type(number) for number in told], [tuple, int, int])


class Walk(unittest.TestCase):
    def check(self, finder, text, gap):
        for row, place in enumerate(looked_order(text)):
            told = finder.walk(row)
            self.assertEqual(told, (place, place % gap), (text, gap, row))
            self.assertEqual([type(told)] + [type(number) for number in told], [tuple, int, int])

    def test_every_row_and_gap(self):
        for text in TEXTS + SHORT_TEXTS:
            for gap in gaps_for(text):
                self.check(Finder(text, gap), text, gap)

    def test_no_gap_told(self):
        for text in TEXTS + LONG_TEXTS:
            self.check(Finder(text), text, 4)

    def test_texts_of_three_hundred_signs(self):
        for text in (LONG, FEW_SIGNS, "a" * 300):
            for gap in (1, 2, 7, 299, 300, 301, GREATS[-1]):
                self.check(Finder(text, gap), text, gap)

    def test_the_gap_by_its_name(self):
        self.check(Finder("banana", gap=5), "banana", 5)

    def test_a_gap_below_1(self):
        for text in ("", "a", "banana", LONG):
            for gap in [0] + BAD_NUMBERS:
                assert_refused(self, "NoGap", Finder, text, gap)

    def test_a_row_that_is_none(self):
        for text in ("", "a", "banana", LONG):
            for gap in (1, 2, 4, 400, GREATS[-1]):
                finder = Finder(text, gap)
                for row in BAD_NUMBERS + [len(text) + 1, len(text) + 2, -len(text) - 1] + GREATS:
                    assert_refused(self, "NoPlace", finder.walk, row)


class Places(unittest.TestCase):
    def check(self, finder, text, piece):
        asked = looked_places(text, piece)
        told = finder.places(piece)
        self.assertEqual(told, asked, (text, piece))
        self.assertIs(type(told), list)
        self.assertTrue(all(type(place) is int for place in told))
        self.assertEqual(finder.count(piece), len(asked), (text, piece))
        self.assertIs(type(finder.count(piece)), int)

    def test_told_places(self):
        finder = Finder("banana")
        for piece, places in (("ana", [1, 3]), ("a", [1, 3, 5]), ("b", [0]), ("x", []), ("", [0, 1, 2, 3, 4, 5, 6])):
            self.assertEqual(finder.places(piece), places)
            self.assertEqual(finder.count(piece), len(places))

    def test_overlapping_places_rise(self):
        for gap in gaps_for("aaaaa"):
            self.assertEqual(Finder("aaaaa", gap).places("aa"), [0, 1, 2, 3])
            self.assertEqual(Finder("abababa", gap).places("aba"), [0, 2, 4])

    def test_all_short_texts_and_pieces(self):
        pieces = all_texts("ab", 3) + [" ", "~", "a ", "~a"]
        for text in SHORT_TEXTS:
            for gap in (1, 2, 4, 9):
                finder = Finder(text, gap)
                for piece in pieces:
                    self.check(finder, text, piece)

    def test_pieces_that_stand_often_once_and_nowhere(self):
        for text in TEXTS:
            finder = Finder(text)
            for piece in pieces_for(text):
                self.check(finder, text, piece)

    def test_texts_of_three_hundred_signs(self):
        for text in LONG_TEXTS:
            finder = Finder(text)
            for piece in ("", "a", "b", "ab", "aa", text[100:120], text[:299], text[1:], text, text + "a"):
                self.check(finder, text, piece)

    def test_told_lists_are_the_askers_own(self):
        finder = Finder("banana")
        for piece in ("a", "", "x"):
            held = finder.places(piece)
            told = finder.places(piece)
            asked = looked_places("banana", piece)
            told.append(99)
            told[0] = -1
            finder.places("n")
            Finder("ananas").places(piece)
            self.assertEqual(held, asked)
            self.assertEqual(finder.places(piece), asked)
        self.assertEqual([finder.walk(row)[0] for row in range(7)], looked_order("banana"))


class RowAt(unittest.TestCase):
    def test_each_place(self):
        for text in TEXTS + SHORT_TEXTS:
            order = looked_order(text)
            for gap in gaps_for(text):
                finder = Finder(text, gap)
                for place in range(len(text) + 1):
                    told = finder.row_at(place)
                    self.assertEqual(told, order.index(place), (text, gap, place))
                    self.assertIs(type(told), int)

    def test_texts_of_three_hundred_signs(self):
        for text in LONG_TEXTS:
            order = looked_order(text)
            for finder in (Finder(text), Finder(text, 301)):
                told = [finder.row_at(place) for place in range(301)]
                self.assertEqual(told, [order.index(place) for place in range(301)])

    def test_a_place_that_is_none(self):
        for text in ("", "a", "banana", LONG):
            for gap in (1, 2, 4, 400, GREATS[-1]):
                finder = Finder(text, gap)
                for place in BAD_NUMBERS + [len(text) + 1, len(text) + 2, -len(text) - 1] + GREATS:
                    assert_refused(self, "NoPlace", finder.row_at, place)


class PieceAt(unittest.TestCase):
    def test_each_place_and_size(self):
        for text in TEXTS + SHORT_TEXTS:
            for gap in (1, 2, 4, len(text) + 1, GREATS[-1]):
                finder = Finder(text, gap)
                for place in range(len(text) + 1):
                    left = len(text) - place
                    for size in (0, 1, 2, 3, left, left + 1, left + 7, GREATS[-1]):
                        told = finder.piece_at(place, size)
                        self.assertEqual(told, text[place:place + size], (text, gap, place, size))
                        self.assertIs(type(told), str)

    def test_texts_of_three_hundred_signs(self):
        for text in LONG_TEXTS:
            finder = Finder(text)
            for place in (0, 1, 2, 3, 150, 298, 299, 300):
                for size in (0, 1, 5, 149, 150, 151, 300, 301, GREATS[-1]):
                    self.assertEqual(finder.piece_at(place, size), text[place:place + size])

    def test_a_place_or_a_size_that_is_none(self):
        for text in ("", "a", "banana", LONG):
            finder = Finder(text)
            for place in BAD_NUMBERS + [len(text) + 1, len(text) + 2, -len(text) - 1] + GREATS:
                for size in (-1, 0, 1, GREATS[-1]):
                    assert_refused(self, "NoPlace", finder.piece_at, place, size)
            for place in (0, len(text) // 2, len(text)):
                for size in BAD_NUMBERS:
                    assert_refused(self, "NoPlace", finder.piece_at, place, size)

    def test_what_is_refused_changes_nothing(self):
        finder = Finder("banana")
        assert_refused(self, "NoPlace", finder.piece_at, 3, -1)
        assert_refused(self, "NoPlace", finder.walk, 7)
        assert_refused(self, "NoPlace", finder.row_at, 7)
        self.assertEqual(finder.piece_at(0, 6), "banana")
        self.assertEqual(sorted(pieces_of("banana")), sorted(
            {finder.piece_at(place, size) for place in range(7) for size in range(7)}
        ))


if __name__ == "__main__":
    unittest.main()
