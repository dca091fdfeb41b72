import unittest
from copy import deepcopy
from math import factorial

from ordernest.errors import BadBook, BadNumber, BadOrder
from ordernest.numbers import how_many, number_of, order_at
from tests.wording import MUCH, all_orders, every_book, no_books, plain_book, some_orders, some_sets, subsets

NO_ORDERS = [(), (0,), (0, 1), (0, 1, 2, 3), tuple(range(8)), tuple(range(9)), (0, 0, 1), (1, 2, 3), (0, 1, 3),
             (0, 1, -1), (-1, 0, 1), (2, 2, 2), (0, 1, MUCH), (-MUCH, 1, 2)]
FAR = [10 ** 14, -10 ** 14, MUCH, -MUCH]


class HowMany(unittest.TestCase):
    def test_as_many_as_there_are(self):
        for many, orders in some_sets():
            told = how_many(plain_book(many, orders))
            self.assertEqual(told, len(orders))
            self.assertIs(type(told), int)

    def test_none_one_and_all(self):
        for many in range(1, 9):
            self.assertEqual(how_many((many, [], 0)), 0)
            self.assertEqual(how_many(plain_book(many, [tuple(range(many))])), 1)
            self.assertEqual(how_many(plain_book(many, all_orders(many))), factorial(many))

    def test_no_books(self):
        for wrong in no_books():
            with self.assertRaises(BadBook):
                how_many(wrong)


class OrderAt(unittest.TestCase):
    def test_by_hand(self):
        book = plain_book(3, [(2, 0, 1), (0, 2, 1), (0, 1, 2), (2, 1, 0)])
        self.assertEqual([order_at(book, number) for number in range(4)],
                         [(0, 1, 2), (0, 2, 1), (2, 0, 1), (2, 1, 0)])

    def test_each_number_rising(self):
        for many, orders in some_sets():
            book = plain_book(many, orders)
            told = [order_at(book, number) for number in range(len(orders))]
            self.assertEqual(told, sorted(orders))
            self.assertTrue(all(type(order) is tuple for order in told))

    def test_all_orders_of_8_things(self):
        orders = all_orders(8)
        book = plain_book(8, orders)
        for number in [0, 1, 2, 5039, 5040, 20160, 40318, 40319] + list(range(7, 40320, 613)):
            self.assertEqual(order_at(book, number), orders[number])
        with self.assertRaises(BadNumber):
            order_at(book, 40320)

    def test_other_numbers(self):
        for many, orders in some_sets():
            book = plain_book(many, orders)
            for number in [-1, -2, -len(orders) - 1, len(orders), len(orders) + 1] + FAR:
                with self.assertRaises(BadNumber):
                    order_at(book, number)

    def test_no_orders_have_no_number(self):
        for many in range(1, 9):
            for number in list(range(-3, 4)) + FAR:
                with self.assertRaises(BadNumber):
                    order_at((many, [], 0), number)

    def test_truths_are_no_whole_numbers(self):
        for truth in (True, False):
            with self.assertRaises(BadNumber):
                order_at(plain_book(2, all_orders(2)), truth)

    def test_no_books_ahead_of_numbers(self):
        for wrong in no_books():
            for number in [-1, 0, 1, 7] + FAR:
                with self.assertRaises(BadBook):
                    order_at(wrong, number)


class NumberOf(unittest.TestCase):
    def assert_number(self, orders, book, order):
        told = number_of(book, order)
        self.assertEqual(told, (sum(other < order for other in orders), order in orders))
        self.assertEqual([type(told)] + [type(part) for part in told], [tuple, int, bool])

    def test_by_hand(self):
        book = plain_book(3, [(2, 0, 1), (0, 2, 1), (2, 1, 0)])
        self.assertEqual([number_of(book, order) for order in all_orders(3)],
                         [(0, False), (0, True), (1, False), (1, False), (1, True), (2, True)])

    def test_each_order_that_there_is(self):
        for many, orders in some_sets():
            if many <= 5:
                book = plain_book(many, orders)
                for order in all_orders(many):
                    self.assert_number(orders, book, order)

    def test_orders_of_more_things(self):
        for many in (6, 7, 8):
            drawn = some_orders(many, 300, many)
            orders = drawn[:150]
            book = plain_book(many, orders)
            for order in drawn + all_orders(many)[:20] + all_orders(many)[-20:]:
                self.assert_number(orders, book, order)

    def test_all_orders_of_8_things(self):
        orders = all_orders(8)
        book = plain_book(8, orders)
        for number in [0, 1, 5039, 5040, 40319] + list(range(11, 40320, 977)):
            self.assertEqual(number_of(book, orders[number]), (number, True))

    def test_no_orders(self):
        for many in range(1, 9):
            for order in (tuple(range(many)), tuple(reversed(range(many)))):
                self.assertEqual(number_of((many, [], 0), order), (0, False))

    def test_undoes_order_at(self):
        for many, orders in some_sets():
            book = plain_book(many, orders)
            for number in range(0, len(orders), 1 + len(orders) // 50):
                self.assertEqual(number_of(book, order_at(book, number)), (number, True))

    def test_another_count_or_no_order(self):
        for orders in subsets(all_orders(3)):
            book = plain_book(3, orders)
            for wrong in NO_ORDERS:
                with self.assertRaises(BadOrder):
                    number_of(book, wrong)
        for many in range(1, 9):
            for other in range(1, 10):
                if other != many:
                    with self.assertRaises(BadOrder):
                        number_of((many, [], 0), tuple(range(other)))

    def test_no_books_ahead_of_orders(self):
        for wrong in no_books():
            for order in NO_ORDERS + all_orders(3):
                with self.assertRaises(BadBook):
                    number_of(wrong, order)


class Kept(unittest.TestCase):
    def test_what_is_handed_in_is_as_it_was(self):
        for book in every_book(3):
            before = deepcopy(book)
            count = how_many(book)
            for order in all_orders(3):
                number_of(book, order)
            for number in range(count):
                order_at(book, number)
            with self.assertRaises(BadNumber):
                order_at(book, count)
            with self.assertRaises(BadOrder):
                number_of(book, (0, 1))
            self.assertEqual(book, before)

    def test_a_book_that_is_changed_is_counted_anew(self):
        book = plain_book(2, all_orders(2))
        self.assertEqual(how_many(book), 2)
        book[1][:] = plain_book(2, [(0, 1)])[1]
        self.assertEqual(how_many((2, book[1], 3)), 1)
        self.assertEqual(order_at((2, book[1], 3), 0), (0, 1))


if __name__ == "__main__":
    unittest.main()
