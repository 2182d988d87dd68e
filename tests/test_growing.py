import unittest

from backindex.growing import grown, put_ahead, taken_off
from backindex.letters import last_letters
from helper import GREATS, LONG, LONG_TEXTS, SIGNS, TEXTS, all_texts, assert_refused, looked_letters

SHORT_TEXTS = all_texts(" a~", 4) + all_texts("ab", 6)


class PutAhead(unittest.TestCase):
    def check(self, text, sign):
        told = put_ahead(*looked_letters(text), sign)
        self.assertEqual(told, looked_letters(sign + text), (text, sign))
        self.assertEqual((type(told), type(told[0]), type(told[1])), (tuple, str, int))

    def test_told_letters(self):
        self.assertEqual(put_ahead("", 0, "a"), ("a", 1))
        self.assertEqual(put_ahead("annaa", 3, "b"), ("annbaa", 4))

    def test_every_sign_ahead_of_short_texts(self):
        for text in all_texts("a~", 3) + [" ", "a b", "~~ ", "9;0", "zZ"]:
            for sign in SIGNS:
                self.check(text, sign)

    def test_every_sign_ahead_of_all_signs(self):
        for text in ("".join(SIGNS), "".join(reversed(SIGNS))):
            for sign in SIGNS:
                self.check(text, sign)

    def test_all_short_texts(self):
        for text in SHORT_TEXTS:
            for sign in " ab~":
                self.check(text, sign)

    def test_three_hundred_signs(self):
        for text in LONG_TEXTS:
            for sign in " a~":
                self.check(text[1:], sign)


class TakenOff(unittest.TestCase):
    def check(self, text):
        told = taken_off(*looked_letters(text))
        self.assertEqual(told, looked_letters(text[1:]) + (text[0],), text)
        kinds = [type(thing) for thing in (told,) + told]
        self.assertEqual(kinds, [tuple, str, int, str])

    def test_told_letters(self):
        self.assertEqual(taken_off("a", 1), ("", 0, "a"))
        self.assertEqual(taken_off("annbaa", 4), ("annaa", 3, "b"))

    def test_all_short_texts(self):
        for text in SHORT_TEXTS + TEXTS + LONG_TEXTS:
            if text:
                self.check(text)

    def test_taken_off_one_by_one_to_the_end(self):
        for text in TEXTS + LONG_TEXTS:
            letters, home = looked_letters(text)
            for place in range(len(text)):
                letters, home, sign = taken_off(letters, home)
                self.assertEqual(sign, text[place])
                self.assertEqual((letters, home), last_letters(text[place + 1:]))
            self.assertEqual((letters, home), ("", 0))
            assert_refused(self, "Empty", taken_off, letters, home)

    def test_it_undoes_put_ahead(self):
        for text in all_texts("a~", 3) + ["".join(SIGNS)]:
            pair = looked_letters(text)
            for sign in SIGNS:
                self.assertEqual(taken_off(*put_ahead(*pair, sign)), pair + (sign,), (text, sign))


class Refused(unittest.TestCase):
    def test_no_sign_to_take_off(self):
        assert_refused(self, "Empty", taken_off, "", 0)

    def test_a_home_that_is_none_ahead_of_empty(self):
        for letters in ("", "a", "annbaa", LONG):
            least = len(letters) + 1
            for home in [-1, -2, -least, least, least + 1] + GREATS + [-great for great in GREATS]:
                assert_refused(self, "NoPlace", taken_off, letters, home)
                for sign in " a~":
                    assert_refused(self, "NoPlace", put_ahead, letters, home, sign)


class Grown(unittest.TestCase):
    def test_it_has_the_texts_last_letters(self):
        for text in SHORT_TEXTS + TEXTS + LONG_TEXTS:
            told = grown(text)
            self.assertEqual(told, looked_letters(text), text)
            self.assertEqual(told, last_letters(text))
            self.assertEqual((type(told), type(told[0]), type(told[1])), (tuple, str, int))

    def test_the_text_without_signs(self):
        self.assertEqual(grown(""), ("", 0))


if __name__ == "__main__":
    unittest.main()
