import unittest

from backindex.letters import last_letters
from backindex.reading import read_back, road_of
from helper import (
    FEW_SIGNS, GREATS, LONG, LONG_TEXTS, TEXTS, all_texts, assert_refused, looked_letters, looked_order, pairs_of,
)


def looked_road(letters, home):
    column = list(letters[:home]) + [""] + list(letters[home:])
    road = [0]
    while road[-1] != home:
        sign = column[road[-1]]
        less = [letter for letter in letters if letter < sign]
        road.append(1 + len(less) + column[:road[-1]].count(sign))
    return road


class RoadOf(unittest.TestCase):
    def test_told_roads(self):
        self.assertEqual(road_of("annbaa", 4), [0, 1, 5, 2, 6, 3, 4])
        self.assertEqual(road_of("", 0), [0])
        self.assertEqual(road_of("a", 0), [0])
        self.assertEqual(road_of("a", 1), [0, 1])
        self.assertEqual(road_of("abc", 1), [0, 1])

    def test_every_home_of_short_letters(self):
        for letters, home in pairs_of(" a~", 4) + pairs_of("ab", 6):
            told = road_of(letters, home)
            self.assertEqual(told, looked_road(letters, home), (letters, home))
            self.assertEqual((told[0], told[-1]), (0, home))
            self.assertEqual(len(set(told)), len(told))
            self.assertEqual((type(told), type(told[-1])), (list, int))

    def test_a_home_of_0_ends_the_road_at_once(self):
        for letters in ("", "a", "banana", LONG):
            self.assertEqual(road_of(letters, 0), [0])

    def test_many_letters(self):
        for letters in (LONG, FEW_SIGNS, "a" * 300):
            for home in (0, 1, 2, 150, 299, 300):
                self.assertEqual(road_of(letters, home), looked_road(letters, home))

    def test_the_road_of_a_texts_letters_goes_through_its_endings(self):
        for text in TEXTS + LONG_TEXTS:
            order = looked_order(text)
            asked = [order.index(place) for place in range(len(text), -1, -1)]
            self.assertEqual(road_of(*looked_letters(text)), asked)

    def test_told_lists_are_the_askers_own(self):
        for letters, home in (("", 0), ("annbaa", 4)):
            held = road_of(letters, home)
            told = road_of(letters, home)
            asked = list(told)
            told.append(99)
            told[0] = -1
            road_of("ba", 1)
            self.assertEqual(road_of(letters, home), asked)
            self.assertEqual(held, asked)


class ReadBack(unittest.TestCase):
    def test_the_text_again(self):
        for text in TEXTS + LONG_TEXTS + all_texts(" a~", 5) + all_texts("ab", 8):
            told = read_back(*looked_letters(text))
            self.assertIs(type(told), str)
            self.assertEqual(told, text)
            self.assertEqual(read_back(*last_letters(text)), text)

    def test_just_the_last_letters_of_some_text_are_read(self):
        for signs, most in ((" a~", 4), ("ab", 7)):
            texts = {looked_letters(text): text for text in all_texts(signs, most)}
            for letters, home in pairs_of(signs, most):
                if (letters, home) in texts:
                    self.assertEqual(read_back(letters, home), texts[(letters, home)])
                else:
                    assert_refused(self, "NoText", read_back, letters, home)

    def test_letters_that_are_no_texts(self):
        for letters, home in (
            ("a", 0), ("aa", 0), ("aa", 1), ("ab", 1), ("ab", 0), ("abc", 1), ("annbaa", 0), ("aabbn", 3),
            ("a" * 300, 299), ("a" * 300, 0), (LONG, 0), ("".join(sorted(LONG)), 150),
        ):
            self.assertLess(len(looked_road(letters, home)), len(letters) + 1)
            assert_refused(self, "NoText", read_back, letters, home)


class NoSuchHome(unittest.TestCase):
    def test_ahead_of_all_else(self):
        # The letters "ba" are those of no text but "ab", with the home 1.
        for letters in ("", "a", "ba", "abc", "annbaa", LONG):
            least = len(letters) + 1
            for home in [-1, -2, -least, least, least + 1] + GREATS + [-great for great in GREATS]:
                assert_refused(self, "NoPlace", road_of, letters, home)
                assert_refused(self, "NoPlace", read_back, letters, home)


if __name__ == "__main__":
    unittest.main()
