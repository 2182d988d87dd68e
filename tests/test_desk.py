import re
import unittest
from itertools import groupby

from backindex.desk import Desk
from helper import (
    FEW_SIGNS, LONG, LONG_TEXTS, SIGNS, TEXTS, assert_refused, looked_letters, looked_places, pieces_of, sort_key,
)

# Good rows for a desk of the texts below, of every sort: the words ahead of the rest, and a rest or None.
KEPT = {"a": "banana", "b": "cabana", "none": "", "eightlet": "~ ~  0;"}
ROWS = [
    ("keep a", "x y"), ("keep c", ""), ("load a", "4 a1;n2;b1;a2;"), ("load c", "0 "), ("ahead a", " x "),
    ("ahead none", ""), ("drop a", None), ("off a 2", None), ("off none 0", None), ("text a", None),
    ("text eightlet", None), ("pack a", None), ("count a", "an"), ("find a", "an"), ("near a 1", "ban"),
    ("often a 2", None), ("kinds a", None), ("lone a", None), ("cut a", "nabanx"), ("both a b", None),
]
NUMBERED = ("off a", "near a", "often a")
NO_NAMES = ("", "A", "aB", "a1", "a-", "abcdefghi", "abcdefgh1", "~", "1")
NO_NUMBERS = (
    "", "00", "01", "007", "+1", "-1", "-0", "+0", "x", "1x", "x1", "1.0", "1_0", "0x1", "1234567890", "0123456789",
    "1000000000", "9" * 10, "9" * 300, "0" * 9, "0" * 10,
)


def new_desk():
    desk = Desk()
    for name, text in KEPT.items():
        desk.say(f"keep {name} {text}")
    return desk


def row_of(words, rest):
    return words if rest is None else f"{words} {rest}"


def packed_of(text):
    letters, home = looked_letters(text)
    return f"{home} " + "".join(f"{sign}{len(list(alike))};" for sign, alike in groupby(letters))


class Rows(unittest.TestCase):
    """Each row of the interface."""

    def check(self, rows):
        desk = new_desk()
        for row, answer in rows:
            told = desk.say(row)
            self.assertEqual(told, answer, row)
            self.assertIs(type(told), str)

    def test_keep(self):
        self.check([
            ("keep a new", "ok"), ("text a", "new"), ("text b", "cabana"), ("keep fresh one two", "ok"),
            ("text fresh", "one two"), ("keep abcdefgh z", "ok"), ("text abcdefgh", "z"),
        ])

    def test_keep_of_blanks(self):
        self.check([
            ("keep a ", "ok"), ("text a", ""), ("keep a  ", "ok"), ("text a", " "), ("keep a  x  y ", "ok"),
            ("text a", " x  y "), ("keep keep keep", "ok"), ("text keep", "keep"),
        ])

    def test_load(self):
        self.check([
            ("load a 1 b1;a1;", "ok"), ("text a", "ab"), ("load c 0 ", "ok"), ("text c", ""),
            ("load c 4 a1;n2;b1;a2;", "ok"), ("text c", "banana"), ("text b", "cabana"),
        ])
        for text in TEXTS + LONG_TEXTS:
            self.check([(f"load c {packed_of(text)}", "ok"), ("text c", text)])

    def test_ahead(self):
        self.check([
            ("ahead a xy", "ok"), ("text a", "xybanana"), ("ahead a ", "ok"), ("text a", "xybanana"),
            ("ahead a  1 ", "ok"), ("text a", " 1 xybanana"), ("ahead none q", "ok"), ("text none", "q"),
        ])

    def test_drop(self):
        desk = new_desk()
        self.assertEqual(desk.say("drop a"), "ok")
        for row in ("text a", "drop a", "ahead a x", "off a 0", "both a b", "both b a"):
            assert_refused(self, "NoName", desk.say, row)
        self.assertEqual(desk.say("text b"), "cabana")
        self.assertEqual(desk.say("keep a again"), "ok")
        self.assertEqual(desk.say("text a"), "again")

    def test_off(self):
        self.check([
            ("off a 0", ""), ("text a", "banana"), ("off a 2", "ba"), ("text a", "nana"), ("off a 4", "nana"),
            ("text a", ""), ("off a 0", ""), ("off none 0", ""), ("off b 1", "c"), ("text b", "abana"),
        ])

    def test_text_and_pack(self):
        self.check([("text none", ""), ("text eightlet", "~ ~  0;"), ("pack a", "4 a1;n2;b1;a2;"), ("pack none", "0 ")])
        for text in TEXTS + LONG_TEXTS:
            self.check([(f"keep c {text}", "ok"), ("text c", text), ("pack c", packed_of(text))])

    def test_count_and_find(self):
        self.check([
            ("count a an", "2"), ("count a x", "0"), ("count a ", "7"), ("count none ", "1"), ("find a an", "1 3"),
            ("find a x", ""), ("find a ", "0 1 2 3 4 5 6"), ("find none ", "0"), ("find a banana", "0"),
            ("find eightlet  ", "1 3 4"), ("count eightlet   ", "1"), ("find eightlet   ", "3"),
            ("find eightlet ~ ", "0 2"), ("count a bananas", "0"),
        ])
        desk = new_desk()
        for text in TEXTS + [FEW_SIGNS, "a" * 300]:
            desk.say(f"keep c {text}")
            for piece in ("", "a", "ab", " ", "~ ", text[2:5], text):
                places = looked_places(text, piece)
                self.assertEqual(desk.say(f"count c {piece}"), str(len(places)))
                self.assertEqual(desk.say(f"find c {piece}"), " ".join(map(str, places)))

    def test_near(self):
        self.check([
            ("near a 0 an", "1:0 3:0"), ("near a 1 ban", "0:0 2:1"), ("near a 9 xyz", "0:3 1:3 2:3 3:3"),
            ("near a 0 x", ""), ("near a 0 ", "0:0 1:0 2:0 3:0 4:0 5:0 6:0"), ("near a 999999999 bananas", ""),
            ("near eightlet 0 ~  ", "2:0"), ("near none 3 ", "0:0"),
        ])

    def test_often(self):
        self.check([
            ("often a 1", "=banana"), ("often a 2", "=ana"), ("often a 3", "=a"), ("often a 7", "="),
            ("often a 8", "-"), ("often a 999999999", "-"), ("often none 1", "="), ("often none 2", "-"),
            ("keep c = =", "ok"), ("often c 2", "=="),
        ])

    def test_kinds_and_lone(self):
        self.check([
            ("kinds a", "16"), ("kinds none", "1"), ("lone a", "1 4 3 - - - -"), ("lone none", "0"),
            ("keep c x", "ok"), ("lone c", "1 -"), ("kinds c", "2"),
        ])
        for text in TEXTS:
            self.check([(f"keep c {text}", "ok"), ("kinds c", str(len(pieces_of(text))))])

    def test_cut(self):
        self.check([
            ("cut a nabanx", "2 3 1"), ("cut a ", ""), ("cut a banana", "6"), ("cut none xyz", "1 1 1"),
            ("cut a  an ", "1 2 1"), ("cut eightlet ~  0", "4"),
        ])

    def test_both(self):
        self.check([
            ("both a b", "bana"), ("both b a", "bana"), ("both a a", "banana"), ("both a none", ""),
            ("both none none", ""), ("both eightlet eightlet", "~ ~  0;"), ("keep c xx~ ", "ok"),
            ("both c eightlet", "~ "),
        ])

    def test_two_desks_keep_nothing_together(self):
        one, other = Desk(), Desk()
        one.say("keep a x")
        assert_refused(self, "NoName", other.say, "text a")
        other.say("keep a y")
        self.assertEqual((one.say("text a"), other.say("text a")), ("x", "y"))


class NoRow(unittest.TestCase):
    def check(self, row):
        desk = new_desk()
        assert_refused(self, "NoRow", desk.say, row)
        for name, text in KEPT.items():
            self.assertEqual(desk.say(f"text {name}"), text)

    def test_good_rows_are_answered(self):
        for words, rest in ROWS:
            self.assertIs(type(new_desk().say(row_of(words, rest))), str)

    def test_a_word_too_few(self):
        for words, rest in ROWS:
            self.check(words if rest is not None else words.rpartition(" ")[0])
            self.check(words.rpartition(" ")[0])
            self.check(words.split(" ")[0])

    def test_a_word_too_many(self):
        for words, rest in ROWS:
            if rest is None:
                for more in ("x", "a", "1", ""):
                    self.check(f"{words} {more}")

    def test_blanks_at_the_end_and_two_together(self):
        for words, rest in ROWS:
            if rest is None:
                self.check(words + " ")
                self.check(words + "  ")
                self.check(words.replace(" ", "  "))
            self.check(" " + row_of(words, rest))
        self.check("near a  1 ban")
        self.check("near a  ")

    def test_other_words(self):
        for row in (
            "", " ", "  ", "x", "keeps a x", "kee a x", "Keep a x", "TEXT a", "text", "a", "~ a", "word a", "name a",
            "rest a x", "say a", "both", "both a", "keep", "keep ", "say a b", "count", "0", "ok", "keep\ta x",
        ):
            self.check(row)

    def test_numbers_that_are_none(self):
        for words in NUMBERED:
            for number in NO_NUMBERS:
                self.check(f"{words} {number} ban" if words == "near a" else f"{words} {number}")

    def test_numbers_of_one_to_nine_figures(self):
        desk = new_desk()
        for number in ("0", "1", "10", "123456789", "999999999", "100000000"):
            self.assertEqual(desk.say(f"near a {number} b"), "0:0" if number == "0" else "0:0 1:1 2:1 3:1 4:1 5:1")
            if int(number) > 7:
                self.assertEqual(desk.say(f"often a {number}"), "-")
                assert_refused(self, "Empty", desk.say, f"off a {number}")

    def test_what_is_no_packed_letters(self):
        for packed in (
            "", " ", "0", "x", "1 ", "00 ", "0 a0;", "0 a1;a1;", "0 a301;", "2 a1;", "1 a1", "01 a1;", "1  a1;",
            "1 a1; ", "1 a01;", "1" * 300 + " a1;", "1 a" + "1" * 300 + ";",
        ):
            self.check(f"load a {packed}")
            self.check(f"load c {packed}")

    def test_it_is_ahead_of_no_name(self):
        for name in NO_NAMES + ("c", "unkept"):
            for row in (f"off {name} 01", f"near {name} x a", f"often {name} -1", f"text {name} ", f"both {name}",
                        f"keep {name}", f"load {name}", f"drop {name} x", f"near {name} 1", f"off {name} 1234567890"):
                self.check(row)


class NoName(unittest.TestCase):
    def check(self, row):
        desk = new_desk()
        assert_refused(self, "NoName", desk.say, row)
        for name, text in KEPT.items():
            self.assertEqual(desk.say(f"text {name}"), text)

    def test_words_that_are_no_names(self):
        for words, rest in ROWS:
            for name in NO_NAMES:
                told = words.split(" ")
                told[1] = name
                self.check(row_of(" ".join(told), rest))

    def test_names_by_which_nothing_is_kept(self):
        for words, rest in ROWS:
            told = words.split(" ")
            if told[0] not in ("keep", "load"):
                for name in ("c", "aa", "ab", "unkept", "abcdefgh", "text"):
                    told[1] = name
                    self.check(row_of(" ".join(told), rest))

    def test_the_second_name_of_both(self):
        for name in NO_NAMES + ("c", "aa"):
            self.check(f"both a {name}")
            self.check(f"both {name} {name}")

    def test_it_is_ahead_of_what_else_is_due(self):
        for name in NO_NAMES:
            self.check(f"keep {name} " + "x" * 301)
            self.check(f"load {name} 0 a1;")
            self.check(f"load {name} no packed letters")
        for name in NO_NAMES + ("c",):
            self.check(f"ahead {name} " + "x" * 301)
            self.check(f"often {name} 0")
            self.check(f"off {name} 999999999")

    def test_names_of_one_and_of_eight_letters(self):
        desk = Desk()
        for name in ("a", "z", "az", "abcdefgh", "zzzzzzzz"):
            self.assertEqual(desk.say(f"keep {name} x{name}"), "ok")
            self.assertEqual(desk.say(f"text {name}"), f"x{name}")


class WhatElseIsDue(unittest.TestCase):
    def check(self, refusal, row):
        desk = new_desk()
        assert_refused(self, refusal, desk.say, row)
        for name, text in KEPT.items():
            self.assertEqual(desk.say(f"text {name}"), text)
        assert_refused(self, "NoName", desk.say, "text c")

    def test_too_long(self):
        for size in (301, 302, 999):
            self.check("TooLong", "keep a " + "x" * size)
            self.check("TooLong", "keep c " + " " * size)
            self.check("TooLong", "ahead none " + "x" * size)
        self.check("TooLong", "ahead a " + "x" * 295)
        self.check("TooLong", "ahead a " + "x" * 300)

    def test_three_hundred_signs_are_kept(self):
        desk = new_desk()
        self.assertEqual(desk.say("keep c " + LONG), "ok")
        self.assertEqual(desk.say("text c"), LONG)
        self.assertEqual(desk.say("ahead c "), "ok")
        assert_refused(self, "TooLong", desk.say, "ahead c x")
        assert_refused(self, "TooLong", desk.say, "ahead c " + LONG)
        self.assertEqual(desk.say("text c"), LONG)
        self.assertEqual(desk.say("ahead a " + "x" * 294), "ok")
        self.assertEqual(desk.say("text a"), "x" * 294 + "banana")
        assert_refused(self, "TooLong", desk.say, "ahead a x")
        self.assertEqual(desk.say("keep c " + " " * 300), "ok")
        self.assertEqual(desk.say("text c"), " " * 300)
        self.assertEqual(desk.say("load c 300 a300;"), "ok")
        self.assertEqual(desk.say("count c a"), "300")

    def test_no_times(self):
        for name in KEPT:
            self.check("NoTimes", f"often {name} 0")

    def test_empty(self):
        for row in ("off a 7", "off a 999999999", "off none 1"):
            self.check("Empty", row)

    def test_no_text(self):
        for packed in ("0 a1;", "1 a1;b1;", "1 a1;b1;c1;", "0 a300;", "299 a300;"):
            self.check("NoText", f"load a {packed}")
            self.check("NoText", f"load c {packed}")


class Model:
    """A desk that looks through its texts from place to place."""

    def __init__(self):
        self.texts = {}

    def say(self, row):
        words = row.split(" ")
        rest = " ".join(words[2:])
        if words[0] == "keep":
            self.texts[words[1]] = rest
            return "ok"
        text = self.texts[words[1]]
        if words[0] == "ahead":
            self.texts[words[1]] = rest + text
            return "ok"
        if words[0] == "off":
            self.texts[words[1]] = text[int(rest):]
            return text[:int(rest)]
        return getattr(self, "tell_" + words[0])(text, rest)

    def tell_text(self, text, rest):
        return text

    def tell_pack(self, text, rest):
        return packed_of(text)

    def tell_count(self, text, rest):
        return str(len(looked_places(text, rest)))

    def tell_find(self, text, rest):
        return " ".join(map(str, looked_places(text, rest)))

    def tell_near(self, text, rest):
        slips, piece = rest.split(" ", 1)
        wrongs = [
            (place, sum(one != other for one, other in zip(text[place:], piece)))
            for place in range(len(text) + 1) if len(piece) <= len(text) - place
        ]
        return " ".join(f"{place}:{wrong}" for place, wrong in wrongs if wrong <= int(slips))

    def tell_often(self, text, rest):
        often = [piece for piece in pieces_of(text) if len(looked_places(text, piece)) >= int(rest)]
        return "=" + min(often, key=lambda piece: (-len(piece), sort_key(piece))) if often else "-"

    def tell_kinds(self, text, rest):
        return str(len(pieces_of(text)))

    def tell_lone(self, text, rest):
        sizes = []
        for place in range(len(text) + 1):
            lone = [
                size for size in range(len(text) - place + 1)
                if looked_places(text, text[place:place + size]) == [place]
            ]
            sizes.append(str(lone[0]) if lone else "-")
        return " ".join(sizes)

    def tell_cut(self, text, rest):
        sizes = []
        while rest:
            sizes.append(max([size for size in range(1, len(rest) + 1) if rest[-size:] in text] + [1]))
            rest = rest[:-sizes[-1]]
        return " ".join(map(str, reversed(sizes)))

    def tell_both(self, text, rest):
        both = pieces_of(text) & pieces_of(self.texts[rest])
        return min(both, key=lambda piece: (-len(piece), sort_key(piece)))


def asking_rows(texts):
    """Every question about the texts a and b, with pieces of the texts handed in."""
    rows = ["text a", "pack a", "kinds a", "lone a", "both a b", "both b a", "often a 1", "often a 2", "often a 3"]
    for piece in ["", "a", "ab", " ", "~"] + [text[at:at + 3] for text in texts for at in (0, 2, 5)]:
        rows += [f"count a {piece}", f"find a {piece}", f"near a 1 {piece}", f"near a 2 {piece}"]
    return rows + [f"cut a {text}" for text in texts]


class TheWhole(unittest.TestCase):
    """Points [1] and [3]: whatever way a text came to be, all is told as one tells it who looks through it."""

    def test_against_one_who_looks_through_the_text(self):
        desk, model = Desk(), Model()
        for start, text in enumerate(TEXTS):
            other = TEXTS[(start * 7 + 3) % len(TEXTS)][:30]
            text = text[:30]
            changes = [f"keep a {text}", f"keep b {other}", f"ahead a {other[:4]}", "off a " + str(len(text) // 2)]
            for change in changes:
                self.assertEqual(desk.say(change), model.say(change), change)
                if "b" in model.texts:
                    for row in asking_rows((text, other)):
                        self.assertEqual(desk.say(row), model.say(row), (text, other, row))

    def test_packed_letters_told_to_another_desk(self):
        one, other = Desk(), Desk()
        for start, text in enumerate(TEXTS + LONG_TEXTS):
            beside = TEXTS[(start * 5 + 1) % len(TEXTS)]
            for change in (f"keep a {text[1:]}", f"keep b {beside}", f"ahead a {text[:1]}", "off b 0"):
                one.say(change)
            for name in "ab":
                self.assertEqual(other.say(f"load {name} " + one.say(f"pack {name}")), "ok")
            for row in asking_rows((text[:40], beside)):
                self.assertEqual(other.say(row), one.say(row), (text, beside, row))

    def test_grown_sign_by_sign_and_shortened(self):
        for text in TEXTS:
            once, grown, short = Desk(), Desk(), Desk()
            once.say(f"keep a {text}")
            grown.say("keep a ")
            for sign in reversed(text):
                grown.say(f"ahead a {sign}")
            short.say(f"keep a more{text}")
            self.assertEqual("".join(short.say("off a 1") for step in "more"), "more")
            for desk in (once, grown, short):
                desk.say("keep b abracadabra")
            for row in asking_rows((text,)):
                self.assertEqual({grown.say(row), short.say(row)}, {once.say(row)}, (text, row))

    def test_each_sign_alone(self):
        desk = Desk()
        for sign in SIGNS:
            self.assertEqual(desk.say(f"keep a {sign}"), "ok")
            self.assertEqual(desk.say("pack a"), f"1 {sign}1;")
            self.assertEqual(desk.say(f"load b 1 {sign}1;"), "ok")
            self.assertEqual(desk.say("both a b"), sign)
            self.assertEqual(desk.say(f"find a {sign}"), "0")

    def test_answers_are_plain_rows(self):
        desk = new_desk()
        for row, form in (("find a a", r"\d+( \d+)*"), ("near a 1 an", r"\d+:\d+( \d+:\d+)*"), ("lone a", r"[\d -]+")):
            self.assertTrue(re.fullmatch(form, desk.say(row)), row)


if __name__ == "__main__":
    unittest.main()
