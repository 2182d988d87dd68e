import unittest
from itertools import permutations, product

from backindex import errors
from backindex.order import order_of, rows_of
from backindex.texts import comes_before
from helper import LONG, SHORT_ROWS, SIGNS, assert_refused


class OrderOf(unittest.TestCase):
    def check(self, text):
        order = order_of(text)
        self.assertIs(type(order), list)
        self.assertTrue(all(type(place) is int for place in order))
        self.assertEqual(sorted(order), list(range(len(text) + 1)))
        for lesser, greater in zip(order, order[1:]):
            self.assertTrue(comes_before(text[lesser:], text[greater:]), (text, lesser, greater))

    def test_told_orders(self):
        self.assertEqual(order_of(""), [0])
        self.assertEqual(order_of("a"), [1, 0])
        self.assertEqual(order_of("ab"), [2, 0, 1])
        self.assertEqual(order_of("ba"), [2, 1, 0])
        self.assertEqual(order_of("banana"), [6, 5, 3, 1, 0, 4, 2])
        self.assertEqual(order_of("mississippi"), [11, 10, 7, 4, 1, 0, 9, 8, 6, 3, 5, 2])
        self.assertEqual(order_of("~ ~"), [3, 1, 2, 0])
        self.assertEqual(order_of("aA"), [2, 1, 0])

    def test_one_sign_again_and_again(self):
        for sign in (" ", "a", "~"):
            for size in (1, 2, 3, 50, 300):
                self.assertEqual(order_of(sign * size), list(range(size, -1, -1)))

    def test_a_short_row_told_over_again(self):
        for row in SHORT_ROWS:
            for times in (1, 2, 3, 10, 300 // len(row)):
                self.check(row * times)

    def test_each_sign_alone(self):
        for sign in SIGNS:
            self.assertEqual(order_of(sign), [1, 0])

    def test_all_short_texts(self):
        for size in range(6):
            for row in product(" a~", repeat=size):
                self.check("".join(row))

    def test_texts_of_three_hundred_signs(self):
        self.assertEqual(len(LONG), 300)
        self.check(LONG)
        self.check("a" * 299 + "b")
        self.check("b" + "a" * 299)
        self.check("a" * 150 + "b" + "a" * 149)

    def test_the_place_behind_the_last_sign_has_row_0(self):
        for text in ("", "a", "banana", " ", "~~", LONG):
            self.assertEqual(order_of(text)[0], len(text))

    def test_a_told_list_is_the_askers_own(self):
        for text in ("", "banana"):
            told = order_of(text)
            before = list(told)
            told.append(99)
            told[0] = -1
            self.assertEqual(order_of(text), before)

    def test_a_told_list_stays_over_another_asking(self):
        held = order_of("banana")
        again = order_of("banana")
        order_of("ananas")
        order_of("")
        again.clear()
        self.assertEqual(held, [6, 5, 3, 1, 0, 4, 2])


class RowsOf(unittest.TestCase):
    def assert_refused(self, order):
        handed = list(order)
        assert_refused(self, "NoOrder", rows_of, handed)
        self.assertEqual(handed, order)

    def test_told_rows(self):
        self.assertEqual(rows_of([]), [])
        self.assertEqual(rows_of([0]), [0])
        self.assertEqual(rows_of([1, 0]), [1, 0])
        self.assertEqual(rows_of([1, 2, 0]), [2, 0, 1])
        self.assertEqual(rows_of([6, 5, 3, 1, 0, 4, 2]), [4, 3, 6, 2, 5, 1, 0])

    def test_lists_in_any_order(self):
        for size in range(7):
            for order in permutations(range(size)):
                rows = rows_of(list(order))
                self.assertIs(type(rows), list)
                self.assertTrue(all(type(row) is int for row in rows))
                self.assertEqual(rows, [order.index(number) for number in range(size)])

    def test_a_list_of_four_hundred(self):
        order = [(at * 123 + 7) % 400 for at in range(400)]
        rows = rows_of(order)
        self.assertEqual(rows, [order.index(number) for number in range(400)])

    def test_rows_of_a_texts_order(self):
        for text in ("", "a", "banana", LONG):
            order = order_of(text)
            rows = rows_of(order)
            self.assertEqual(rows[len(text)], 0)
            self.assertEqual([order[row] for row in rows], list(range(len(text) + 1)))

    def test_a_number_twice(self):
        for order in ([0, 0], [1, 1], [0, 1, 1], [2, 0, 2], [0, 1, 2, 0], list(range(399)) + [0]):
            self.assert_refused(order)

    def test_a_number_left_out(self):
        for order in ([1], [1, 2], [0, 2], [3, 1, 0], [1, 2, 3], list(range(1, 401))):
            self.assert_refused(order)

    def test_a_number_below_0(self):
        for order in ([-1], [0, -1], [-1, 0], [-2, 0], [1, -2], [0, 1, -1], [-3, 1, 2], [2, 1, -3], [0, 1, 2, -4]):
            self.assert_refused(order)

    def test_a_number_from_the_length_on(self):
        for order in ([1], [0, 2], [2, 0], [0, 1, 3], [0, 1, 99], [400] + list(range(1, 400))):
            self.assert_refused(order)

    def test_numbers_of_many_figures(self):
        for figures in (10, 19, 20, 100, 300):
            great = 10 ** figures - 1
            for order in ([great], [-great], [0, great], [great, 0], [0, -great], [great, great], [1, 0, great]):
                self.assert_refused(order)

    def test_all_short_lists(self):
        for size in range(5):
            for numbers in product(range(-size - 1, size + 2), repeat=size):
                order = list(numbers)
                if sorted(order) == list(range(size)):
                    self.assertEqual(rows_of(order), [order.index(number) for number in range(size)])
                else:
                    self.assertRaises(errors.NoOrder, rows_of, order)

    def test_the_list_handed_in_stays_as_it_was(self):
        for order in ([], [0], [2, 0, 1], [4, 2, 0, 1, 3]):
            handed = list(order)
            rows_of(handed)
            self.assertEqual(handed, order)

    def test_a_told_list_is_the_askers_own(self):
        for order in ([], [0], [0, 1, 2], [2, 0, 1]):
            handed = list(order)
            told = rows_of(handed)
            before = list(told)
            self.assertIsNot(told, handed)
            told.append(99)
            told[0] = -1
            self.assertEqual(handed, order)
            self.assertEqual(rows_of(handed), before)

    def test_a_told_list_stays_over_another_asking(self):
        handed = [2, 0, 1]
        held = rows_of(handed)
        none_held = rows_of([])
        rows_of([0, 1, 2]).clear()
        rows_of([]).append(0)
        self.assertRaises(errors.NoOrder, rows_of, [0, 0, 0])
        handed[0] = 7
        self.assertEqual(held, [1, 2, 0])
        self.assertEqual(none_held, [])


if __name__ == "__main__":
    unittest.main()
