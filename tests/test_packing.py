import re
import unittest
from itertools import groupby

from backindex.packing import packed, runs_of, unpacked
from helper import (
    FEW_SIGNS, GREATS, LONG, LONG_TEXTS, SIGNS, TEXTS, all_texts, assert_refused, looked_letters, pairs_of,
)

PACKED = re.compile(r"(0|[1-9][0-9]*) ((?:[ -~](?:[1-9][0-9]*);)*)")
PAIRS = pairs_of(" a~", 3) + pairs_of("ab", 4) + pairs_of("0;9 ", 3) + [looked_letters(text) for text in TEXTS]
LONG_PAIRS = [(LONG, 0), (FEW_SIGNS, 300), ("a" * 300, 150), ("a" * 299 + "b", 7)]


def looked_runs(text):
    return [(sign, len(list(alike))) for sign, alike in groupby(text)]


def looked_packed(letters, home):
    return str(home) + " " + "".join(sign + str(many) + ";" for sign, many in looked_runs(letters))


def looked_unpacked(text):
    """The pair that is written so, or None."""
    form = PACKED.fullmatch(text)
    if form is None:
        return None
    runs = [(sign, int(many)) for sign, many in re.findall(r"([ -~])([1-9][0-9]*);", form[2])]
    home = int(form[1])
    size = sum(many for sign, many in runs)
    if size > 300 or home > size or any(one[0] == other[0] for one, other in zip(runs, runs[1:])):
        return None
    return "".join(sign * many for sign, many in runs), home


class RunsOf(unittest.TestCase):
    def test_told_runs(self):
        self.assertEqual(runs_of("aaab"), [("a", 3), ("b", 1)])
        self.assertEqual(runs_of("abba"), [("a", 1), ("b", 2), ("a", 1)])
        self.assertEqual(runs_of("; ;;"), [(";", 1), (" ", 1), (";", 2)])
        self.assertEqual(runs_of(""), [])
        self.assertEqual(runs_of("1122"), [("1", 2), ("2", 2)])

    def test_runs_of_many_sizes(self):
        for sign in "a0 ;~":
            for size in (1, 2, 9, 10, 11, 99, 100, 300):
                self.assertEqual(runs_of(sign * size), [(sign, size)])
                self.assertEqual(runs_of(sign * size + "b"), [(sign, size), ("b", 1)])
                self.assertEqual(runs_of("b" + sign * size), [("b", 1), (sign, size)])

    def test_many_texts(self):
        for text in all_texts(" a~", 5) + TEXTS + LONG_TEXTS:
            told = runs_of(text)
            self.assertEqual(told, looked_runs(text), text)
            self.assertIs(type(told), list)
            for run in told:
                self.assertEqual([type(run)] + [type(thing) for thing in run], [tuple, str, int])

    def test_told_lists_are_the_askers_own(self):
        for text in ("", "aab"):
            held = runs_of(text)
            told = runs_of(text)
            told.append(("z", 9))
            told[0] = ("y", 8)
            runs_of("bba")
            self.assertEqual(held, looked_runs(text))
            self.assertEqual(runs_of(text), looked_runs(text))


class Packed(unittest.TestCase):
    def test_told_texts(self):
        self.assertEqual(packed("aaab", 2), "2 a3;b1;")
        self.assertEqual(packed("", 0), "0 ")
        self.assertEqual(packed(";  ", 0), "0 ;1; 2;")
        self.assertEqual(packed("1" * 23, 10), "10 123;")
        self.assertEqual(packed("a" * 300, 300), "300 a300;")

    def test_many_letters(self):
        for letters, home in PAIRS + LONG_PAIRS:
            told = packed(letters, home)
            self.assertEqual(told, looked_packed(letters, home))
            self.assertIs(type(told), str)

    def test_a_home_that_is_none(self):
        for letters in ("", "a", "annbaa", LONG):
            least = len(letters) + 1
            for home in [-1, -2, -least, least, least + 1] + GREATS + [-great for great in GREATS]:
                assert_refused(self, "NoPlace", packed, letters, home)


class Unpacked(unittest.TestCase):
    def check(self, text):
        asked = looked_unpacked(text)
        if asked is None:
            assert_refused(self, "NoRow", unpacked, text)
        else:
            self.assertEqual(unpacked(text), asked, text)

    def test_told_pairs(self):
        self.assertEqual(unpacked("2 a3;b1;"), ("aaab", 2))
        self.assertEqual(unpacked("0 "), ("", 0))
        self.assertEqual(unpacked("0 ;1; 2;"), (";  ", 0))
        self.assertEqual(unpacked("0  1;"), (" ", 0))
        self.assertEqual(unpacked("10 123;"), ("1" * 23, 10))
        self.assertEqual(unpacked("2 12;01;"), ("110", 2))

    def test_what_was_packed(self):
        for letters, home in PAIRS + LONG_PAIRS:
            told = unpacked(looked_packed(letters, home))
            self.assertEqual(told, (letters, home))
            self.assertEqual((type(told), type(told[0]), type(told[1])), (tuple, str, int))
            self.assertEqual(unpacked(packed(letters, home)), (letters, home))

    def test_runs_of_many_sizes(self):
        for sign in "a0 ;~19":
            for size in (1, 9, 10, 11, 99, 100, 299, 300):
                for home in (0, 1, size):
                    self.assertEqual(unpacked(f"{home} {sign}{size};"), (sign * size, home))

    def test_letters_that_are_no_texts(self):
        self.assertEqual(unpacked("0 a1;"), ("a", 0))
        self.assertEqual(unpacked("1 a1;b1;c1;"), ("abc", 1))

    def test_noughts_ahead_and_runs_of_0(self):
        for text in (
            "00 ", "02 a3;", "2 a03;", "0 a0;", "0 a00;", "0 a1;b0;", "0 a0;b1;", "000 a1;", "01 a1;", "0 00;", "0 ;0;",
        ):
            assert_refused(self, "NoRow", unpacked, text)

    def test_neighbouring_runs_of_one_sign(self):
        for text in ("0 a1;a1;", "0 b1;a2;a1;", "0  1; 1;", "0 ;1;;1;", "0 11;11;", "0 a1;b1;b2;a1;"):
            assert_refused(self, "NoRow", unpacked, text)
        self.assertEqual(unpacked("0 a1;b1;a1;"), ("aba", 0))

    def test_a_home_that_is_no_row(self):
        for text in ("1 ", "5 a3;b1;", "6 a3;b1;", "301 a300;", "-1 a1;", "-0 a1;", "+1 a1;", " a1;", "a a1;", "a1;"):
            assert_refused(self, "NoRow", unpacked, text)
        self.assertEqual(unpacked("4 a3;b1;"), ("aaab", 4))

    def test_more_than_three_hundred_letters(self):
        for text in ("0 a301;", "0 a300;b1;", "0 b1;a300;", "0 a150;b151;", "0 a999;", "0 " + "a1;b1;" * 151):
            assert_refused(self, "NoRow", unpacked, text)
        self.assertEqual(unpacked("0 a150;b150;"), ("a" * 150 + "b" * 150, 0))
        self.assertEqual(unpacked("0 " + "a1;b1;" * 150), ("ab" * 150, 0))

    def test_numbers_of_many_figures(self):
        for great in GREATS + [10 ** 9, 10 ** 18, 10 ** 299]:
            for text in (f"{great} a3;", f"0 a{great};", f"{great} a{great};", f"0 a1;b{great};", f"{great} "):
                assert_refused(self, "NoRow", unpacked, text)
            assert_refused(self, "NoRow", unpacked, f"0 a{str(great)[::-1].zfill(300)};")
            assert_refused(self, "NoRow", unpacked, "0" * len(str(great)) + "1 a1;")

    def test_no_end_no_blank_no_signs(self):
        for text in (
            "", "0", "1", " ", ";", "2a3;b1;", "2 a3;b1", "2 a3", "2 a", "2 ;", "0 ;1", "0 1;", "0 a;", "0 a1;;",
            "0 a1; ",
        ):
            assert_refused(self, "NoRow", unpacked, text)

    def test_other_signs_in_numbers(self):
        for many in ("+1", "-1", "1 ", " 1", "1_0", "1.0", "1e1", "0x1", "one", "1,0"):
            assert_refused(self, "NoRow", unpacked, f"0 a{many};")
            assert_refused(self, "NoRow", unpacked, f"{many} a10;")

    def test_a_sign_left_out_put_in_or_exchanged_at_each_place(self):
        for text in ("2 a3;b1;", "0 ", "0 ;1; 2;", "10 112;a9; 1;", "3 91;02;;1;", "300 a300;", "1 ~1;a10;"):
            self.assertIsNotNone(looked_unpacked(text))
            for place in range(len(text) + 1):
                self.check(text[:place] + text[place + 1:])
                for sign in SIGNS:
                    self.check(text[:place] + sign + text[place:])
                    self.check(text[:place] + sign + text[place + 1:])

    def test_all_short_texts(self):
        for text in all_texts("01a; ", 6):
            self.check(text)


if __name__ == "__main__":
    unittest.main()
