import unittest
from copy import deepcopy
from itertools import product

from ordernest.books import look_book, orders_in
from ordernest.errors import BadBook, BadRule, Unlike
from ordernest.joining import joined, parting
from tests.wording import MUCH, all_orders, every_book, no_books, plain_book, some_orders

WORDS = {
    "or": lambda one, other: one | other,
    "and": lambda one, other: one & other,
    "less": lambda one, other: one - other,
    "odd": lambda one, other: one ^ other,
}
NO_WORDS = ["", "xor", "Or", "OR", "or ", " or", "o", "oror", "or\n", "nor", "andor", "And", "without", "Less", "not",
            "both", "either", "even", "at", "0", "|", "&", "-", "^"]
NO_ORDERS = (3, [], 0)
EMPTY = [(many, [], 0) for many in range(1, 9)]


def drawn_pairs():
    """Two sets of orders of 1 to 8 things: that share some, none, all; one within the other; of none; of all."""
    for many in range(1, 9):
        orders = all_orders(many)
        some = set(some_orders(many, (len(orders) + 1) // 2 if many < 6 else 300, many))
        others = set(some_orders(many, (len(orders) + 1) // 2 if many < 6 else 300, 50 + many))
        fewer = set(sorted(some)[::3])
        sets = [set(), {orders[0]}, {orders[-1]}, some, others, some | others, fewer, some - others, others - some]
        if many < 8:
            sets += [set(orders), set(orders) - some]
        for one, other in product(sets, sets):
            yield many, one, other


class JoiningCase(unittest.TestCase):
    def assert_book(self, told, many, orders):
        self.assertEqual(told, plain_book(many, orders))
        self.assertEqual((type(told), type(told[1])), (tuple, list))
        self.assertIsNone(look_book(told))


class Joined(JoiningCase):
    def test_by_hand(self):
        one = (2, [((1, 1),), ((0, 2),)], 3)
        other = (2, [((0, 1),), ((1, 2),)], 3)
        both = (2, [((1, 1),), ((0, 1),), ((0, 2), (1, 3))], 4)
        none = (2, [], 0)
        for word, first, second, told in (
                ("or", one, other, both), ("and", one, other, none), ("less", one, other, one),
                ("odd", one, other, both), ("or", both, one, both), ("and", both, one, one),
                ("less", both, one, other), ("odd", both, one, other), ("less", one, both, none),
                ("odd", one, one, none), ("or", none, other, other), ("less", none, other, none)):
            self.assertEqual(joined(word, first, second), told)

    def test_every_two_sets_of_1_to_3_things(self):
        for many in (1, 2, 3):
            books = every_book(many)
            for one, other in product(range(len(books)), range(len(books))):
                self.assertEqual(joined("or", books[one], books[other]), books[one | other])
                self.assertEqual(joined("and", books[one], books[other]), books[one & other])
                self.assertEqual(joined("less", books[one], books[other]), books[one & ~other])
                self.assertEqual(joined("odd", books[one], books[other]), books[one ^ other])

    def test_sets_of_1_to_8_things(self):
        for many, one, other in drawn_pairs():
            books = plain_book(many, one), plain_book(many, other)
            for word, meant in WORDS.items():
                self.assert_book(joined(word, *books), many, meant(one, other))

    def test_all_orders_of_8_things(self):
        every = plain_book(8, all_orders(8))
        few = set(some_orders(8, 40, 8))
        book = plain_book(8, few)
        self.assertEqual(joined("or", every, book), every)
        self.assertEqual(joined("and", book, every), book)
        self.assertEqual(joined("less", book, every), (8, [], 0))
        self.assert_book(joined("less", every, book), 8, set(all_orders(8)) - few)
        self.assertEqual(joined("odd", joined("odd", every, book), every), book)

    def test_answers_that_are_less_than_their_rooms(self):
        # Doors behind which nothing is left over must not stay, nor rooms behind them.
        one = {(0, 1, 2, 3), (0, 1, 3, 2), (3, 2, 1, 0)}
        other = {(0, 1, 2, 3), (0, 1, 3, 2), (3, 2, 0, 1)}
        books = plain_book(4, one), plain_book(4, other)
        self.assertEqual(joined("less", *books), (4, [((0, 1),), ((1, 2),), ((2, 3),), ((3, 4),)], 5))
        for word, meant in WORDS.items():
            self.assert_book(joined(word, *books), 4, meant(one, other))

    def test_told_book_can_be_joined_on(self):
        orders = some_orders(5, 60, 1)
        book = (5, [], 0)
        for turn, order in enumerate(orders):
            book = joined("or", book, plain_book(5, [order]))
            self.assert_book(book, 5, orders[:turn + 1])


class JoinedRefused(JoiningCase):
    def test_other_words(self):
        for word in NO_WORDS:
            for one, other in ((NO_ORDERS, NO_ORDERS), (plain_book(2, [(1, 0)]), plain_book(2, all_orders(2)))):
                with self.assertRaises(BadRule):
                    joined(word, one, other)

    def test_other_words_ahead_of_all(self):
        for word in NO_WORDS:
            for one in no_books():
                for handed in ((one, NO_ORDERS), (NO_ORDERS, one), (one, one)):
                    with self.assertRaises(BadRule):
                        joined(word, *handed)
            for one, other in product(EMPTY, EMPTY):
                with self.assertRaises(BadRule):
                    joined(word, one, other)

    def test_no_books(self):
        for word, wrong in product(WORDS, no_books()):
            for book in EMPTY + [plain_book(3, all_orders(3)), plain_book(1, [(0,)])]:
                for handed in ((wrong, book), (book, wrong), (wrong, wrong)):
                    with self.assertRaises(BadBook):
                        joined(word, *handed)

    def test_unlike_counts(self):
        full = [plain_book(many, all_orders(many)) for many in range(1, 6)]
        for word in WORDS:
            for one, other in product(EMPTY + full, EMPTY + full):
                if one[0] != other[0]:
                    with self.assertRaises(Unlike):
                        joined(word, one, other)


class Parting(JoiningCase):
    def test_by_hand(self):
        one = plain_book(3, [(0, 1, 2), (1, 0, 2), (2, 1, 0)])
        other = plain_book(3, [(0, 1, 2), (1, 2, 0), (2, 1, 0)])
        self.assertEqual(parting(one, other), (1, 0, 2))
        self.assertEqual(parting(other, one), (1, 0, 2))
        self.assertIsNone(parting(one, one))
        self.assertEqual(parting(one, NO_ORDERS), (0, 1, 2))
        self.assertEqual(parting(NO_ORDERS, other), (0, 1, 2))
        self.assertIsNone(parting(NO_ORDERS, NO_ORDERS))

    def test_every_two_sets_of_1_to_3_things(self):
        for many in (1, 2, 3):
            books = every_book(many)
            orders = all_orders(many)
            for one, other in product(range(len(books)), range(len(books))):
                parts = [order for k, order in enumerate(orders) if (one ^ other) >> k & 1]
                self.assertEqual(parting(books[one], books[other]), min(parts, default=None))

    def test_sets_of_1_to_8_things(self):
        for many, one, other in drawn_pairs():
            told = parting(plain_book(many, one), plain_book(many, other))
            self.assertEqual(told, min(one ^ other, default=None))
            self.assertTrue(told is None or type(told) is tuple)

    def test_one_order_of_8_things_left_out(self):
        every = plain_book(8, all_orders(8))
        self.assertIsNone(parting(every, deepcopy(every)))
        for order in some_orders(8, 3, 3):
            lacking = plain_book(8, [other for other in all_orders(8) if other != order])
            self.assertEqual(parting(every, lacking), order)
            self.assertEqual(parting(lacking, every), order)

    def test_no_books(self):
        for wrong in no_books():
            for book in EMPTY + [plain_book(3, all_orders(3)), plain_book(1, [(0,)])]:
                for handed in ((wrong, book), (book, wrong), (wrong, wrong)):
                    with self.assertRaises(BadBook):
                        parting(*handed)

    def test_unlike_counts(self):
        full = [plain_book(many, all_orders(many)) for many in range(1, 6)]
        for one, other in product(EMPTY + full, EMPTY + full):
            if one[0] != other[0]:
                with self.assertRaises(Unlike):
                    parting(one, other)


class Kept(JoiningCase):
    def test_what_is_handed_in_is_as_it_was(self):
        for many, one, other in drawn_pairs():
            if many <= 5:
                books = plain_book(many, one), plain_book(many, other)
                before = deepcopy(books)
                for word in WORDS:
                    joined(word, *books)
                parting(*books)
                self.assertEqual(books, before)

    def test_what_is_refused_is_as_it_was(self):
        book = plain_book(3, all_orders(3))
        for wrong in no_books():
            before = deepcopy((wrong, book))
            with self.assertRaises(BadBook):
                joined("or", wrong, book)
            with self.assertRaises(BadBook):
                joined("or", book, wrong)
            self.assertEqual((wrong, book), before)

    def test_told_rooms_are_a_new_list(self):
        for many in range(1, 6):
            for orders in ([], all_orders(many)[:1], all_orders(many)):
                one, other = plain_book(many, orders), plain_book(many, orders)
                none = plain_book(many, [])
                for told in (joined("or", one, other), joined("and", one, other), joined("or", one, one),
                             joined("and", one, one), joined("less", one, none), joined("odd", none, one),
                             joined("or", one, none), joined("or", none, one)):
                    self.assertEqual(told, one)
                    for handed in (one, other, none):
                        self.assertIsNot(told[1], handed[1])
                    told[1].append((("changed", MUCH),))
                self.assertEqual(one, plain_book(many, orders))
                self.assertEqual(none, (many, [], 0))
                self.assertEqual(joined("or", one, none), plain_book(many, orders))

    def test_a_book_that_is_changed_later_leaves_what_was_told(self):
        book = plain_book(3, all_orders(3))
        told = joined("and", book, book)
        book[1].clear()
        self.assertEqual(orders_in(told), all_orders(3))


if __name__ == "__main__":
    unittest.main()
