import unittest

from backindex.texts import common_size, comes_before, stands_at
from helper import LONG, SIGNS, all_texts, looked_stands


def looked_through_size(one, other):
    size = 0
    for left, right in zip(one, other):
        if left != right:
            return size
        size += 1
    return size


def looked_through_before(one, other):
    for left, right in zip(one, other):
        if left != right:
            return SIGNS.index(left) < SIGNS.index(right)
    return len(one) < len(other)


class ComesBefore(unittest.TestCase):
    # Told here: the lesser text, the greater one.
    PAIRS = (
        ("abc", "bbc"), ("azz", "baa"),
        ("abc", "acc"), ("abz", "aca"),
        ("abc", "abd"),
        ("ab", "abc"), ("a", "aa"), ("a", "a "), ("ab", "b"), ("aaa", "b"),
        ("", "a"), ("", " "), ("", "~"),
        (" ", "~"), (" ", "!"), ("}", "~"), ("a ", "a~"), (" ~", "~ "), (" ~~~", "!"),
        ("A", "a"), ("Z", "a"), ("9", "A"), ("10", "9"),
        (LONG[:299], LONG), (LONG[:299] + " ", LONG[:299] + "~"), (" " + LONG[1:], "~" + LONG[1:]),
    )

    def test_one_way_round_and_the_other(self):
        for lesser, greater in self.PAIRS:
            with self.subTest(lesser=lesser, greater=greater):
                self.assertIs(comes_before(lesser, greater), True)
                self.assertIs(comes_before(greater, lesser), False)

    def test_no_text_comes_before_itself(self):
        for text in ("", " ", "~", "a", "abc", "aaaa", LONG):
            with self.subTest(text=text):
                self.assertIs(comes_before(text, "".join(list(text))), False)

    def test_signs_come_in_their_order(self):
        for at, sign in enumerate(SIGNS):
            for other_at, other in enumerate(SIGNS):
                self.assertIs(comes_before(sign, other), at < other_at)

    def test_all_short_texts(self):
        texts = all_texts(" a~", 3)
        for one in texts:
            for other in texts:
                self.assertIs(comes_before(one, other), looked_through_before(one, other), (one, other))

    def test_of_two_unlike_texts_just_one_comes_first(self):
        texts = all_texts("0;z", 3)
        for one in texts:
            for other in texts:
                ways = [comes_before(one, other), comes_before(other, one)]
                self.assertEqual(ways.count(True), 0 if one == other else 1)


class CommonSize(unittest.TestCase):
    TOLD = (
        ("abc", "xbc", 0), ("abc", "axc", 1), ("abc", "abx", 2), ("abcabc", "abxabc", 2),
        ("ab", "abcd", 2), ("a", "aaaa", 1),
        ("", "", 0), ("", "a", 0),
        (" ", "~", 0), (" ~", " ~", 2), ("a ", "a~", 1), ("a", "A", 0),
        (LONG, LONG[:299], 299), (LONG[:299] + " ", LONG[:299] + "~", 299),
    )

    def test_both_ways_round(self):
        for one, other, size in self.TOLD:
            with self.subTest(one=one, other=other):
                self.assertEqual(common_size(one, other), size)
                self.assertEqual(common_size(other, one), size)

    def test_of_a_text_and_itself_it_is_its_length(self):
        for text in ("", " ", "~", "abc", "aaaa", LONG):
            self.assertEqual(common_size(text, "".join(list(text))), len(text))

    def test_all_short_texts(self):
        texts = all_texts(" a~", 3)
        for one in texts:
            for other in texts:
                self.assertEqual(common_size(one, other), looked_through_size(one, other), (one, other))

    def test_it_is_a_whole_number(self):
        for one, other in (("", ""), ("a", "a"), ("a", "b")):
            self.assertIs(type(common_size(one, other)), int)


class StandsAt(unittest.TestCase):
    def places_of(self, text, piece):
        answers = [stands_at(text, piece, place) for place in range(len(text) + 1)]
        for answer in answers:
            self.assertIs(type(answer), bool)
        return [place for place, answer in enumerate(answers) if answer]

    def test_every_place(self):
        self.assertEqual(self.places_of("banana", "ana"), [1, 3])
        self.assertEqual(self.places_of("banana", "a"), [1, 3, 5])
        self.assertEqual(self.places_of("banana", "banana"), [0])
        self.assertEqual(self.places_of("aaaa", "aa"), [0, 1, 2])
        self.assertEqual(self.places_of(" ~ ~ ", "~ "), [1, 3])
        self.assertEqual(self.places_of(" ~ ~ ", " "), [0, 2, 4])

    def test_the_piece_without_signs_stands_everywhere(self):
        for text in ("", "a", "banana", LONG):
            self.assertEqual(self.places_of(text, ""), list(range(len(text) + 1)))

    def test_a_piece_with_more_signs_than_are_left(self):
        self.assertIs(stands_at("aaaa", "aaa", 2), False)
        self.assertIs(stands_at("aaaa", "a", 4), False)
        self.assertIs(stands_at("", "a", 0), False)
        self.assertIs(stands_at("abc", "abca", 0), False)
        self.assertEqual(self.places_of("banana", "bananas"), [])

    def test_a_piece_unlike_in_its_first_or_last_sign(self):
        self.assertIs(stands_at("xbanana", "ban", 1), True)
        self.assertIs(stands_at("xbanana", "can", 1), False)
        self.assertIs(stands_at("xbanana", "bam", 1), False)
        self.assertIs(stands_at("xbanana", "bxn", 1), False)
        self.assertIs(stands_at("xbanana", "Ban", 1), False)

    def test_a_piece_that_stands_elsewhere_alone(self):
        self.assertIs(stands_at("banana", "ban", 1), False)
        self.assertIs(stands_at("banana", "nana", 1), False)

    def test_all_short_texts(self):
        for text in all_texts("a ", 4):
            for piece in all_texts("a ", 3):
                for place in range(len(text) + 1):
                    asked = looked_stands(text, piece, place)
                    self.assertIs(stands_at(text, piece, place), asked, (text, piece, place))

    def test_a_text_of_three_hundred_signs(self):
        for place in range(301):
            self.assertIs(stands_at(LONG, LONG[place:], place), True)
            self.assertIs(stands_at(LONG, LONG[place:] + " ", place), False)


if __name__ == "__main__":
    unittest.main()
