import unittest

from backindex.letters import Letters, last_letters
from helper import (
    FEW_SIGNS, GREATS, LONG, LONG_TEXTS, RANK, SHORT_ROWS, SIGNS, TEXTS, all_texts, assert_refused,
    looked_letters, looked_order, pairs_of,
)

# Some are a text's last letters, and some are none's.
PAIRS = pairs_of(" a~", 3) + pairs_of("ab", 5) + [looked_letters(text) for text in TEXTS]
LONG_PAIRS = [(letters, home) for letters in (LONG, FEW_SIGNS, "a" * 300) for home in (0, 1, 150, 299, 300)]


def column_of(letters, home):
    return list(letters[:home]) + [None] + list(letters[home:])


def looked_first(letters, sign):
    return 1 + [RANK[letter] < RANK[sign] for letter in letters].count(True)


def looked_before(column, sign, row):
    return [letter == sign for letter in column[:row]].count(True)


def looked_backs(letters, home):
    column = column_of(letters, home)
    return [
        None if sign is None else looked_first(letters, sign) + looked_before(column, sign, row)
        for row, sign in enumerate(column)
    ]


class LastLetters(unittest.TestCase):
    def check(self, text):
        told = last_letters(text)
        self.assertIs(type(told), tuple)
        self.assertEqual((type(told[0]), type(told[1])), (str, int))
        self.assertEqual(told, looked_letters(text), text)

    def test_told_letters(self):
        self.assertEqual(last_letters("banana"), ("annbaa", 4))
        self.assertEqual(last_letters("mississippi"), ("ipssmpissii", 5))
        self.assertEqual(last_letters("ab"), ("ba", 1))
        self.assertEqual(last_letters("ba"), ("ab", 2))
        self.assertEqual(last_letters("~ ~"), ("~~ ", 3))

    def test_the_text_without_signs(self):
        self.assertEqual(last_letters(""), ("", 0))

    def test_one_sign(self):
        for sign in SIGNS:
            self.assertEqual(last_letters(sign), (sign, 1))

    def test_one_sign_again_and_again(self):
        for sign in (" ", "a", "~"):
            for size in (2, 3, 50, 300):
                self.assertEqual(last_letters(sign * size), (sign * size, size))

    def test_a_short_row_told_over_again(self):
        for row in SHORT_ROWS:
            for times in (1, 2, 3, 10, 300 // len(row)):
                self.check(row * times)

    def test_all_signs(self):
        self.assertEqual(last_letters("".join(SIGNS)), ("~" + "".join(SIGNS[:-1]), 1))
        self.check("".join(reversed(SIGNS)))
        self.check("".join(SIGNS[at * 7 % len(SIGNS)] for at in range(len(SIGNS))))

    def test_all_short_texts(self):
        for text in all_texts(" a~", 5):
            self.check(text)

    def test_texts_of_three_hundred_signs(self):
        for text in LONG_TEXTS:
            self.check(text)


class OfAnyLetters(unittest.TestCase):
    def test_the_letter_of_each_row(self):
        for letters, home in PAIRS + LONG_PAIRS:
            held = Letters(letters, home)
            told = [held.letter(row) for row in range(len(letters) + 1)]
            self.assertEqual(told, column_of(letters, home), (letters, home))
        self.assertEqual([Letters("xyz", 1).letter(row) for row in range(4)], ["x", None, "y", "z"])

    def test_first_of_each_sign(self):
        for letters, home in PAIRS + LONG_PAIRS:
            held = Letters(letters, home)
            for sign in SIGNS:
                self.assertEqual(held.first(sign), looked_first(letters, sign), (letters, home, sign))

    def test_first_of_signs_that_are_no_letter(self):
        held = Letters("bdbd", 2)
        self.assertEqual([held.first(sign) for sign in " abcde~"], [1, 1, 1, 3, 3, 5, 5])
        self.assertEqual([Letters("", 0).first(sign) for sign in (" ", "~")], [1, 1])

    def test_before_of_each_sign_and_row(self):
        for letters, home in PAIRS:
            held = Letters(letters, home)
            column = column_of(letters, home)
            for sign in sorted(set(letters + " ab~")):
                for row in range(len(letters) + 2):
                    asked = looked_before(column, sign, row)
                    self.assertEqual(held.before(sign, row), asked, (letters, home, sign, row))

    def test_before_of_many_letters(self):
        for letters, home in LONG_PAIRS:
            held = Letters(letters, home)
            column = column_of(letters, home)
            for sign in (" ", "a", "b", "~"):
                for row in (0, 1, home, home + 1, 149, 299, 300, 301):
                    self.assertEqual(held.before(sign, row), looked_before(column, sign, row))

    def test_before_at_the_first_and_behind_the_last_row(self):
        for home in range(7):
            held = Letters("banana", home)
            self.assertEqual([held.before(sign, 0) for sign in "abnx"], [0, 0, 0, 0])
            self.assertEqual([held.before(sign, 7) for sign in "abnx"], [3, 1, 2, 0])

    def test_the_row_back_of_each_row(self):
        for letters, home in PAIRS + LONG_PAIRS:
            held = Letters(letters, home)
            told = [held.back(row) for row in range(len(letters) + 1)]
            self.assertEqual(told, looked_backs(letters, home), (letters, home))

    def test_each_row_but_row_0_is_back_of_just_one_row(self):
        for letters, home in PAIRS + LONG_PAIRS:
            held = Letters(letters, home)
            told = [held.back(row) for row in range(len(letters) + 1) if row != home]
            self.assertEqual(sorted(told), list(range(1, len(letters) + 1)), (letters, home))
            self.assertIs(held.back(home), None)

    def test_the_row_forth_of_each_row(self):
        for letters, home in PAIRS + LONG_PAIRS:
            held = Letters(letters, home)
            backs = looked_backs(letters, home)
            asked = [None] + [backs.index(row) for row in range(1, len(letters) + 1)]
            told = [held.forth(row) for row in range(len(letters) + 1)]
            self.assertEqual(told, asked, (letters, home))

    def test_kinds(self):
        held = Letters("annbaa", 4)
        for answer in (held.first("a"), held.before("n", 7), held.back(0), held.forth(1)):
            self.assertIs(type(answer), int)
        self.assertIs(type(held.letter(0)), str)

    def test_nothing_hangs_on_what_was_asked_before(self):
        held = Letters("annbaa", 4)
        for asking in range(2):
            self.assertEqual([held.back(row) for row in range(7)], [1, 5, 6, 4, None, 2, 3])
            self.assertEqual([held.forth(row) for row in range(7)], [None, 0, 5, 6, 3, 1, 2])
            self.assertEqual([held.before("a", row) for row in range(8)], [0, 1, 1, 1, 1, 1, 2, 3])
            Letters("xyz", 0).back(1)


class NoSuchPlace(unittest.TestCase):
    def test_a_home_that_is_none(self):
        for letters in ("", "a", "banana", LONG):
            least = len(letters) + 1
            for home in [-1, -2, -least, least, least + 1] + GREATS + [-great for great in GREATS]:
                assert_refused(self, "NoPlace", Letters, letters, home)

    def test_a_row_that_is_none(self):
        for letters, home in (("", 0), ("a", 0), ("a", 1), ("banana", 3), (LONG, 300)):
            held = Letters(letters, home)
            least = len(letters) + 1
            for row in [-1, -2, -least, least, least + 1] + GREATS + [-great for great in GREATS]:
                for call in (held.letter, held.back, held.forth):
                    assert_refused(self, "NoPlace", call, row)

    def test_a_row_that_is_none_for_before(self):
        for letters, home in (("", 0), ("a", 0), ("a", 1), ("banana", 3), (LONG, 300)):
            held = Letters(letters, home)
            least = len(letters) + 2
            for row in [-1, -2, -least, least, least + 1] + GREATS + [-great for great in GREATS]:
                for sign in ("a", "z"):
                    assert_refused(self, "NoPlace", held.before, sign, row)

    def test_what_is_refused_changes_nothing(self):
        held = Letters("annbaa", 4)
        assert_refused(self, "NoPlace", held.back, 7)
        assert_refused(self, "NoPlace", held.before, "a", 8)
        self.assertEqual([held.back(row) for row in range(7)], [1, 5, 6, 4, None, 2, 3])


class OfATextsOwnLetters(unittest.TestCase):
    def check(self, text):
        order = looked_order(text)
        held = Letters(*last_letters(text))
        for row, place in enumerate(order):
            longer = None if place == 0 else order.index(place - 1)
            shorter = None if place == len(text) else order.index(place + 1)
            self.assertEqual(held.back(row), longer, (text, row))
            self.assertEqual(held.forth(row), shorter, (text, row))

    def test_back_and_forth_are_one_sign_more_and_one_less(self):
        for text in TEXTS + all_texts("ab", 6) + all_texts(" a~", 4):
            self.check(text)

    def test_texts_of_three_hundred_signs(self):
        for text in LONG_TEXTS:
            self.check(text)


if __name__ == "__main__":
    unittest.main()
