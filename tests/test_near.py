import unittest

from backindex.near import near_places
from helper import FEW_SIGNS, GREATS, LONG, TEXTS, all_texts


def looked_near(text, piece, slips):
    found = []
    for place in range(len(text) + 1):
        if len(piece) <= len(text) - place:
            wrong = sum(1 for at in range(len(piece)) if text[place + at] != piece[at])
            if wrong <= slips:
                found.append((place, wrong))
    return found


class NearPlaces(unittest.TestCase):
    def check(self, text, piece, slips):
        told = near_places(text, piece, slips)
        self.assertEqual(told, looked_near(text, piece, slips), (text, piece, slips))
        self.assertIs(type(told), list)
        for pair in told:
            self.assertEqual([type(pair)] + [type(number) for number in pair], [tuple, int, int])

    def test_told_places(self):
        self.assertEqual(near_places("banana", "ana", 0), [(1, 0), (3, 0)])
        self.assertEqual(near_places("banana", "ban", 1), [(0, 0), (2, 1)])
        self.assertEqual(near_places("banana", "anb", 1), [(1, 1), (3, 1)])
        self.assertEqual(near_places("banana", "xyz", 3), [(0, 3), (1, 3), (2, 3), (3, 3)])
        self.assertEqual(near_places("banana", "xyz", 2), [])
        self.assertEqual(near_places("aaa", "aa", 0), [(0, 0), (1, 0)])

    def test_all_short_texts(self):
        for text in all_texts("ab", 5) + all_texts(" a~", 3):
            for piece in all_texts("ab", 3) + [" a", "~", "a ~"]:
                for slips in (-1, 0, 1, 2, 3, 4, 9):
                    self.check(text, piece, slips)

    def test_unlike_in_the_first_the_last_and_a_middle_sign(self):
        for piece in ("xnan", "axan", "anax"):
            self.assertEqual(near_places("banana", piece, 0), [])
            self.assertIn((1, 1), near_places("banana", piece, 1))

    def test_slips_below_0(self):
        for text in ("", "a", "banana", LONG):
            for piece in ("", "a", "banana"):
                for slips in [-1, -2, -7] + [-great for great in GREATS]:
                    self.assertEqual(near_places(text, piece, slips), [])

    def test_more_slips_than_the_piece_has_signs(self):
        for piece in ("a", "xyz", "ana", "banana"):
            for slips in [len(piece), len(piece) + 1] + GREATS:
                self.check("banana", piece, slips)
                places = [place for place, wrong in near_places("banana", piece, slips)]
                self.assertEqual(places, list(range(7 - len(piece))))

    def test_the_piece_without_signs(self):
        for text in ("", "a", "banana", LONG):
            for slips in [0, 1, 7] + GREATS:
                self.assertEqual(near_places(text, "", slips), [(place, 0) for place in range(len(text) + 1)])

    def test_a_piece_longer_than_the_text(self):
        for text in ("", "a", "banana"):
            for more in ("a", "ab", "banana"):
                for slips in [-1, 0, 1, 20] + GREATS:
                    self.assertEqual(near_places(text, text + more, slips), [])

    def test_a_piece_as_long_as_the_text(self):
        self.assertEqual(near_places("banana", "bahama", 2), [(0, 2)])
        self.assertEqual(near_places("banana", "bahama", 1), [])

    def test_many_texts(self):
        for text in TEXTS:
            for piece in (text, text[1:], text[:-1], text[2:6], text[3:5] + "m", "ab", "~ "):
                for slips in (0, 1, 3):
                    self.check(text, piece, slips)

    def test_texts_of_three_hundred_signs(self):
        for text in (LONG, FEW_SIGNS, "ab" * 150):
            for piece in (text, text[:299], text[100:200], text[7:10], "a", "ab"):
                for slips in (0, 1, 2, 50, 300):
                    self.check(text, piece, slips)

    def test_told_lists_are_the_askers_own(self):
        for piece, slips in (("ana", 1), ("", 0), ("zzzzzzz", 9)):
            held = near_places("banana", piece, slips)
            told = near_places("banana", piece, slips)
            asked = looked_near("banana", piece, slips)
            told.append((99, 0))
            told[0] = (98, 0)
            near_places("ananas", piece, slips)
            self.assertEqual(held, asked)
            self.assertEqual(near_places("banana", piece, slips), asked)


if __name__ == "__main__":
    unittest.main()
