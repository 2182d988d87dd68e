import unittest

from backindex.repeats import commons_of, kinds_in, lone_sizes, longest_often, shared_size
from helper import (
    FEW_SIGNS, GREATS, LONG, LONG_TEXTS, SHORT_ROWS, SIGNS, TEXTS, all_texts, assert_refused, looked_order,
    looked_places, pieces_of, sort_key,
)

SHORT_TEXTS = all_texts("ab", 6) + all_texts(" a~", 4)
MIDDLE_TEXTS = TEXTS + [row * 8 for row in SHORT_ROWS] + [FEW_SIGNS[:40], LONG[:40]]


def looked_size(one, other):
    size = 0
    while size < len(one) and size < len(other) and one[size] == other[size]:
        size += 1
    return size


def looked_commons(text):
    endings = [text[place:] for place in looked_order(text)]
    return [0] + [looked_size(one, other) for one, other in zip(endings, endings[1:])]


def looked_often(text, times):
    often = [piece for piece in pieces_of(text) if len(looked_places(text, piece)) >= times]
    return min(often, key=lambda piece: (-len(piece), sort_key(piece)), default=None)


def looked_lone(text, place):
    for size in range(len(text) - place + 1):
        if looked_places(text, text[place:place + size]) == [place]:
            return size
    return None


class CommonsOf(unittest.TestCase):
    def test_told_commons(self):
        self.assertEqual(commons_of("banana"), [0, 0, 1, 3, 0, 0, 2])
        self.assertEqual(commons_of(""), [0])
        self.assertEqual(commons_of("a"), [0, 0])
        self.assertEqual(commons_of("aaaa"), [0, 0, 1, 2, 3])

    def test_each_row(self):
        for text in SHORT_TEXTS + MIDDLE_TEXTS + LONG_TEXTS:
            told = commons_of(text)
            self.assertEqual(told, looked_commons(text), text)
            self.assertIs(type(told), list)
            self.assertTrue(all(type(size) is int for size in told))

    def test_told_lists_are_the_askers_own(self):
        for text in ("", "banana"):
            held = commons_of(text)
            told = commons_of(text)
            told.append(99)
            told[0] = -1
            commons_of("ananas")
            lone_sizes(text)
            self.assertEqual(held, looked_commons(text))
            self.assertEqual(commons_of(text), held)


class SharedSize(unittest.TestCase):
    def test_told_sizes(self):
        self.assertEqual(shared_size("banana", 1, 3), 3)
        self.assertEqual(shared_size("banana", 2, 4), 2)
        self.assertEqual(shared_size("banana", 0, 1), 0)
        self.assertEqual(shared_size("banana", 1, 6), 0)

    def test_each_two_places(self):
        for text in SHORT_TEXTS + TEXTS:
            for one in range(len(text) + 1):
                for other in range(len(text) + 1):
                    told = shared_size(text, one, other)
                    self.assertEqual(told, looked_size(text[one:], text[other:]), (text, one, other))
                    self.assertIs(type(told), int)

    def test_a_place_with_itself(self):
        for text in ("", "a", "banana", LONG):
            for place in range(len(text) + 1):
                self.assertEqual(shared_size(text, place, place), len(text) - place)

    def test_it_is_the_least_common_between_the_rows(self):
        for text in TEXTS:
            order = looked_order(text)
            commons = commons_of(text)
            for high in range(1, len(order)):
                for low in range(high):
                    least = min(commons[low + 1:high + 1])
                    self.assertEqual(shared_size(text, order[low], order[high]), least)
                    self.assertEqual(shared_size(text, order[high], order[low]), least)

    def test_a_place_that_is_none(self):
        for text in ("", "a", "banana", LONG):
            least = len(text) + 1
            for place in [-1, -2, -least, least, least + 1] + GREATS + [-great for great in GREATS]:
                for good in (0, len(text)):
                    assert_refused(self, "NoPlace", shared_size, text, place, good)
                    assert_refused(self, "NoPlace", shared_size, text, good, place)
                assert_refused(self, "NoPlace", shared_size, text, place, place)


class LongestOften(unittest.TestCase):
    def test_told_pieces(self):
        for text, times, piece in (
            ("banana", 1, "banana"), ("banana", 2, "ana"), ("banana", 3, "a"), ("banana", 4, ""), ("banana", 7, ""),
            ("banana", 8, None), ("", 1, ""), ("", 2, None), ("abcab", 2, "ab"), ("cdxcdyabzab", 2, "ab"),
            ("abxabycdzcd", 2, "ab"), ("ba", 2, ""), ("aaaa", 2, "aaa"), ("aaaa", 4, "a"), ("~ ~ ", 2, "~ "),
        ):
            self.assertEqual(longest_often(text, times), piece, (text, times))

    def test_each_number_of_times(self):
        for text in all_texts("ab", 5) + all_texts(" a~", 3):
            for times in range(1, len(text) + 4):
                self.assertEqual(longest_often(text, times), looked_often(text, times), (text, times))

    def test_longer_texts(self):
        for text in MIDDLE_TEXTS:
            for times in (1, 2, 3, 5):
                if len(text) < 60:
                    self.assertEqual(longest_often(text, times), looked_often(text, times), (text, times))

    def test_two_times_where_no_number_is_told(self):
        for text in ("", "a", "banana", "abcab", "mississippi"):
            self.assertEqual(longest_often(text), looked_often(text, 2))
        self.assertEqual(longest_often("banana", times=3), "a")

    def test_of_pieces_as_long_the_one_that_comes_first(self):
        for text in ("abcdefabcdef", "dcxdcyabzab", "~~  ", "cabxcabyabczabc", "babaab"):
            self.assertEqual(longest_often(text, 2), looked_often(text, 2))
        # Each sign stands twice, and no longer piece does.
        self.assertEqual(longest_often("".join(SIGNS) + "".join(reversed(SIGNS))), " ")

    def test_as_many_times_as_there_are_places_and_more(self):
        for text in ("", "a", "banana", "aaaa", LONG):
            self.assertEqual(longest_often(text, len(text) + 1), "")
            for times in [len(text) + 2, len(text) + 3] + [great for great in GREATS if great > len(text)]:
                self.assertIs(longest_often(text, times), None)

    def test_three_hundred_signs(self):
        self.assertEqual(longest_often("a" * 300), "a" * 299)
        self.assertEqual(longest_often("a" * 300, 300), "a")
        self.assertEqual(longest_often("ab" * 150, 2), "ab" * 149)
        self.assertEqual(longest_often("ab" * 150, 150), "ab")
        self.assertEqual(longest_often(LONG, 1), LONG)

    def test_a_number_below_1(self):
        for text in ("", "a", "banana", LONG):
            for times in [0, -1, -2, -400] + [-great for great in GREATS]:
                assert_refused(self, "NoTimes", longest_often, text, times)


class LoneSizes(unittest.TestCase):
    def test_told_sizes(self):
        self.assertEqual(lone_sizes("banana"), [1, 4, 3, None, None, None, None])
        self.assertEqual(lone_sizes("abc"), [1, 1, 1, None])
        self.assertEqual(lone_sizes("abab"), [3, 2, None, None, None])

    def test_the_text_without_signs(self):
        self.assertEqual(lone_sizes(""), [0])

    def test_one_sign(self):
        for sign in SIGNS:
            self.assertEqual(lone_sizes(sign), [1, None])

    def test_one_sign_again_and_again(self):
        for size in (2, 3, 50, 300):
            self.assertEqual(lone_sizes("a" * size), [size] + [None] * size)

    def test_unlike_signs(self):
        self.assertEqual(lone_sizes("".join(SIGNS)), [1] * len(SIGNS) + [None])
        self.assertEqual(lone_sizes("".join(reversed(SIGNS))), [1] * len(SIGNS) + [None])

    def test_each_place(self):
        for text in SHORT_TEXTS + MIDDLE_TEXTS:
            told = lone_sizes(text)
            self.assertEqual(told, [looked_lone(text, place) for place in range(len(text) + 1)], text)
            self.assertIs(type(told), list)
            self.assertTrue(all(size is None or type(size) is int for size in told))

    def test_told_lists_are_the_askers_own(self):
        for text, asked in (("", [0]), ("abab", [3, 2, None, None, None])):
            held = lone_sizes(text)
            told = lone_sizes(text)
            told.append(99)
            told[0] = -1
            lone_sizes("ananas")
            self.assertEqual(held, asked)
            self.assertEqual(lone_sizes(text), asked)


class KindsIn(unittest.TestCase):
    def test_told_kinds(self):
        for text, kinds in (("", 1), ("a", 2), ("ab", 4), ("aa", 3), ("banana", 16), ("abc", 7)):
            self.assertEqual(kinds_in(text), kinds)

    def test_one_sign_again_and_again(self):
        for size in (1, 2, 50, 300):
            self.assertEqual(kinds_in(" " * size), size + 1)

    def test_unlike_signs(self):
        size = len(SIGNS)
        self.assertEqual(kinds_in("".join(SIGNS)), 1 + size * (size + 1) // 2)

    def test_a_short_row_told_over_again(self):
        for row in SHORT_ROWS:
            for times in (1, 2, 3, 10):
                self.assertEqual(kinds_in(row * times), len(pieces_of(row * times)))

    def test_many_texts(self):
        for text in SHORT_TEXTS + MIDDLE_TEXTS + LONG_TEXTS:
            told = kinds_in(text)
            self.assertEqual(told, len(pieces_of(text)), text)
            self.assertIs(type(told), int)


if __name__ == "__main__":
    unittest.main()
