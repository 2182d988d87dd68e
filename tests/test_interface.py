"""Everything that the document's interface names is there under its name, with its arguments."""

import importlib
import inspect
import unittest

FUNCTIONS = {
    "texts": ("common_size(one, other)", "comes_before(one, other)", "stands_at(text, piece, place)"),
    "order": ("order_of(text)", "rows_of(order)"),
    "letters": ("last_letters(text)", "Letters(letters, home)"),
    "marks": ("Marks(letters, home, gap)",),
    "reading": ("road_of(letters, home)", "read_back(letters, home)"),
    "finder": ("Finder(text, gap=4)",),
    "near": ("near_places(text, piece, slips)",),
    "repeats": (
        "commons_of(text)", "shared_size(text, one, other)", "longest_often(text, times=2)", "lone_sizes(text)",
        "kinds_in(text)",
    ),
    "against": ("held_against(text, other)", "fewest_pieces(text, other)", "longest_in_both(one, other)"),
    "growing": ("put_ahead(letters, home, sign)", "taken_off(letters, home)", "grown(text)"),
    "packing": ("runs_of(text)", "packed(letters, home)", "unpacked(text)"),
    "desk": ("Desk()",),
}
METHODS = {
    ("letters", "Letters"): ("letter(row)", "first(sign)", "before(sign, row)", "back(row)", "forth(row)"),
    ("marks", "Marks"): ("kept()", "before(sign, row)"),
    ("finder", "Finder"): (
        "rows(piece)", "walk(row)", "count(piece)", "places(piece)", "row_at(place)", "piece_at(place, size)",
    ),
    ("desk", "Desk"): ("say(row)",),
}


def told_form(thing, name):
    return name + str(inspect.signature(thing)).replace("(self, ", "(").replace("(self)", "()")


class Interface(unittest.TestCase):
    def test_functions_and_classes(self):
        for file, forms in FUNCTIONS.items():
            module = importlib.import_module(f"backindex.{file}")
            for form in forms:
                name = form.partition("(")[0]
                self.assertEqual(told_form(getattr(module, name), name), form)

    def test_methods(self):
        for (file, kind), forms in METHODS.items():
            owner = getattr(importlib.import_module(f"backindex.{file}"), kind)
            for form in forms:
                name = form.partition("(")[0]
                self.assertEqual(told_form(getattr(owner, name), name), form)


if __name__ == "__main__":
    unittest.main()
