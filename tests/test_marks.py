import unittest

from backindex.letters import Letters
from backindex.marks import Marks
from helper import FEW_SIGNS, GREATS, LONG, TEXTS, assert_refused, looked_letters, pairs_of

PAIRS = pairs_of(" a~", 3) + pairs_of("ab", 4) + [looked_letters(text) for text in TEXTS[:16]]
LONG_PAIRS = [(FEW_SIGNS, 0), (FEW_SIGNS, 151), ("a" * 300, 300), looked_letters(LONG)]


def gaps_for(letters):
    return [1, 2, 3, len(letters) + 1, len(letters) + 2, len(letters) + 7] + GREATS


def counted(letters, home, sign, row):
    column = list(letters[:home]) + [None] + list(letters[home:])
    return len([letter for letter in column[:row] if letter == sign])


def counted_marks(letters, home, gap):
    signs = sorted(set(letters))
    rows = [row for row in range(len(letters) + 2) if row % gap == 0]
    return [[(sign, counted(letters, home, sign, row)) for sign in signs] for row in rows]


class Kept(unittest.TestCase):
    def test_told_marks(self):
        marks = Marks("annbaa", 4, 3)
        self.assertEqual(marks.kept(), [
            [("a", 0), ("b", 0), ("n", 0)], [("a", 1), ("b", 0), ("n", 2)], [("a", 2), ("b", 1), ("n", 2)],
        ])
        self.assertEqual(Marks("", 0, 1).kept(), [[], []])
        self.assertEqual(Marks("", 0, 2).kept(), [[]])
        self.assertEqual(Marks("a", 0, 1).kept(), [[("a", 0)], [("a", 0)], [("a", 1)]])
        self.assertEqual(Marks("a", 1, 2).kept(), [[("a", 0)], [("a", 1)]])

    def test_each_gap(self):
        for letters, home in PAIRS:
            for gap in gaps_for(letters):
                told = Marks(letters, home, gap).kept()
                self.assertEqual(told, counted_marks(letters, home, gap), (letters, home, gap))

    def test_many_letters(self):
        for letters, home in LONG_PAIRS:
            for gap in (7, 100, 300, 301, 302, GREATS[-1]):
                self.assertEqual(Marks(letters, home, gap).kept(), counted_marks(letters, home, gap))

    def test_kinds(self):
        told = Marks("annbaa", 4, 2).kept()
        self.assertIs(type(told), list)
        for mark in told:
            self.assertIs(type(mark), list)
            for pair in mark:
                self.assertIs(type(pair), tuple)
                self.assertEqual((type(pair[0]), type(pair[1])), (str, int))

    def test_told_lists_are_the_askers_own(self):
        marks = Marks("annbaa", 4, 3)
        asked = counted_marks("annbaa", 4, 3)
        held = marks.kept()
        told = marks.kept()
        told[1].append(("z", 9))
        told[0].clear()
        told[2][0] = ("a", 99)
        told.pop()
        self.assertEqual(marks.kept(), asked)
        self.assertEqual(held, asked)
        self.assertEqual([marks.before("a", row) for row in range(8)], [0, 1, 1, 1, 1, 1, 2, 3])

    def test_asking_changes_nothing(self):
        marks = Marks("annbaa", 4, 2)
        held = marks.kept()
        marks.before("z", 7)
        marks.before("a", 5)
        assert_refused(self, "NoPlace", marks.before, "a", 8)
        self.assertEqual(held, counted_marks("annbaa", 4, 2))
        self.assertEqual(marks.kept(), held)


class Before(unittest.TestCase):
    def test_each_sign_and_row(self):
        for letters, home in PAIRS:
            for gap in gaps_for(letters):
                marks = Marks(letters, home, gap)
                for sign in sorted(set(letters + " bz~")):
                    told = [marks.before(sign, row) for row in range(len(letters) + 2)]
                    asked = [counted(letters, home, sign, row) for row in range(len(letters) + 2)]
                    self.assertEqual(told, asked, (letters, home, gap, sign))

    def test_as_the_letters_tell_it(self):
        for letters, home in LONG_PAIRS:
            for gap in (1, 7, 301, 302, GREATS[-1]):
                marks = Marks(letters, home, gap)
                held = Letters(letters, home)
                for sign in " a~":
                    told = [marks.before(sign, row) for row in range(302)]
                    self.assertEqual(told, [held.before(sign, row) for row in range(302)])

    def test_it_is_a_whole_number(self):
        marks = Marks("annbaa", 4, 2)
        for sign in "az":
            self.assertIs(type(marks.before(sign, 5)), int)

    def test_a_row_that_is_none(self):
        for letters, home in (("", 0), ("a", 1), ("banana", 3), (LONG, 300)):
            for gap in (1, 2, 5, 400, GREATS[-1]):
                marks = Marks(letters, home, gap)
                least = len(letters) + 2
                for row in [-1, -2, -least, least, least + 1] + GREATS + [-great for great in GREATS]:
                    for sign in "az":
                        assert_refused(self, "NoPlace", marks.before, sign, row)


class Refused(unittest.TestCase):
    BAD_GAPS = [0, -1, -2, -7] + [-great for great in GREATS]

    def test_a_gap_below_1(self):
        for letters, home in (("", 0), ("a", 0), ("banana", 6), (LONG, 150)):
            for gap in self.BAD_GAPS:
                assert_refused(self, "NoGap", Marks, letters, home, gap)

    def test_a_home_that_is_none_ahead_of_the_gap(self):
        for letters in ("", "a", "banana"):
            least = len(letters) + 1
            for home in [-1, -least, least, least + 1] + GREATS + [-great for great in GREATS]:
                for gap in [1, 2, GREATS[-1]] + self.BAD_GAPS:
                    assert_refused(self, "NoPlace", Marks, letters, home, gap)


if __name__ == "__main__":
    unittest.main()
