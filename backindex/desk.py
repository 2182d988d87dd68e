"""A desk that keeps texts by names and answers rows."""

from backindex.against import fewest_pieces, longest_in_both
from backindex.checks import MOST_SIGNS, number_in
from backindex.errors import Empty, NoName, NoRow, TooLong
from backindex.finder import Finder
from backindex.letters import last_letters
from backindex.near import near_places
from backindex.packing import packed, unpacked
from backindex.reading import read_back
from backindex.repeats import kinds_in, lone_sizes, longest_often

# The words of each row, by its first one; `rest` is all that is left, blanks too.
FORMS = {
    "keep": "word name rest",
    "load": "word name rest",
    "ahead": "word name rest",
    "drop": "word name",
    "off": "word name number",
    "text": "word name",
    "pack": "word name",
    "count": "word name rest",
    "find": "word name rest",
    "near": "word name number rest",
    "often": "word name number",
    "kinds": "word name",
    "lone": "word name",
    "cut": "word name rest",
    "both": "word name other",
}
# Rows that keep something by their name: so nothing need be kept by it before.
KEEPING = ("keep", "load")


def read_row(row):
    word = row.partition(" ")[0]
    if word not in FORMS:
        raise NoRow("no row begins with this word")
    parts = FORMS[word].split(" ")
    words = row.split(" ")
    if parts[-1] == "rest":
        words = row.split(" ", len(parts) - 1)
    if len(words) != len(parts):
        raise NoRow("the row has too few words or too many")
    told = dict(zip(parts, words))
    if "number" in told:
        told["number"] = number_in(told["number"])
    return told


def is_name(word):
    return 1 <= len(word) <= 8 and word.strip("abcdefghijklmnopqrstuvwxyz") == ""


def check_names(texts, told):
    if told["word"] in KEEPING:
        if not is_name(told["name"]):
            raise NoName("a name is one to eight small letters")
        return
    for part in ("name", "other"):
        if part in told and told[part] not in texts:
            raise NoName("nothing is kept by this name")


def keep_text(texts, name, text):
    if len(text) > MOST_SIGNS:
        raise TooLong("the text would have too many signs")
    texts[name] = text
    return "ok"


def spaced(things):
    return " ".join([str(thing) for thing in things])


def answer_keep(texts, told):
    return keep_text(texts, told["name"], told["rest"])


def answer_load(texts, told):
    pair = unpacked(told["rest"])
    return keep_text(texts, told["name"], read_back(pair[0], pair[1]))


def answer_ahead(texts, told):
    return keep_text(texts, told["name"], told["rest"] + texts[told["name"]])


def answer_drop(texts, told):
    texts.pop(told["name"])
    return "ok"


def answer_off(texts, told):
    text = texts[told["name"]]
    many = told["number"]
    if many > len(text):
        raise Empty("the text has fewer signs")
    texts[told["name"]] = text[many:]
    return text[:many]


def answer_text(texts, told):
    return texts[told["name"]]


def answer_pack(texts, told):
    pair = last_letters(texts[told["name"]])
    return packed(pair[0], pair[1])


def answer_count(texts, told):
    return str(Finder(texts[told["name"]]).count(told["rest"]))


def answer_find(texts, told):
    return spaced(Finder(texts[told["name"]]).places(told["rest"]))


def answer_near(texts, told):
    found = near_places(texts[told["name"]], told["rest"], told["number"])
    return spaced([f"{place}:{wrong}" for place, wrong in found])


def answer_often(texts, told):
    piece = longest_often(texts[told["name"]], told["number"])
    if piece is None:
        return "-"
    return "=" + piece


def answer_kinds(texts, told):
    return str(kinds_in(texts[told["name"]]))


def answer_lone(texts, told):
    return spaced(["-" if size is None else size for size in lone_sizes(texts[told["name"]])])


def answer_cut(texts, told):
    return spaced([len(piece) for piece in fewest_pieces(texts[told["name"]], told["rest"])])


def answer_both(texts, told):
    return longest_in_both(texts[told["name"]], texts[told["other"]])


ANSWERS = {
    "keep": answer_keep,
    "load": answer_load,
    "ahead": answer_ahead,
    "drop": answer_drop,
    "off": answer_off,
    "text": answer_text,
    "pack": answer_pack,
    "count": answer_count,
    "find": answer_find,
    "near": answer_near,
    "often": answer_often,
    "kinds": answer_kinds,
    "lone": answer_lone,
    "cut": answer_cut,
    "both": answer_both,
}


class Desk:
    def __init__(self):
        self.texts = {}

    def say(self, row):
        told = read_row(row)
        check_names(self.texts, told)
        return ANSWERS[told["word"]](self.texts, told)
