import unittest
from copy import deepcopy
from itertools import product

from ordernest.books import book_of, look_book, orders_in
from ordernest.errors import BadBook, BadWeights
from ordernest.weighing import lightest, within
from tests.wording import (
    MUCH, all_orders, drawn_weights, every_book, no_books, plain_book, some_orders, some_sets, subsets, weight,
)


def even_weights(many, number):
    return [[number] * many for place in range(many)]


def with_weight(weights, place, thing, number):
    changed = deepcopy(weights)
    changed[place][thing] = number
    return changed


def wrong_weights(many):
    """Lists of lists of whole numbers that are no weights of so many things."""
    good = drawn_weights(many, 1000, many)
    yield []
    yield good[1:]
    yield good[:-1]
    yield good + [good[0]]
    yield [[] for place in range(many)]
    for place in range(many):
        yield good[:place] + [good[place][1:]] + good[place + 1:]
        yield good[:place] + [good[place] + [0]] + good[place + 1:]
        yield good[:place] + [[]] + good[place + 1:]
        for thing, number in product((0, many - 1), (-1001, 1001, -1002, 5000, MUCH, -MUCH)):
            yield with_weight(good, place, thing, number)
    for other in range(1, 10):
        if other != many:
            yield even_weights(other, 0)


def least(orders, weights):
    return min(((weight(order, weights), order) for order in orders), default=None)


class WeighingCase(unittest.TestCase):
    def held(self, many, orders, weights):
        book = plain_book(many, orders)
        before = deepcopy((book, weights))
        told = lightest(book, weights)
        self.assertEqual(told, least(orders, weights))
        if told is not None:
            self.assertEqual((type(told), type(told[0]), type(told[1])), (tuple, int, tuple))
        for bound in self.bounds(orders, weights):
            self.held_within(many, orders, weights, bound)
        self.assertEqual((book, weights), before)

    def bounds(self, orders, weights):
        """Below, at and between, and above what the orders weigh."""
        found = sorted({weight(order, weights) for order in orders}) or [0]
        near = {found[0], found[-1], found[len(found) // 2]}
        return sorted(near | {bound - 1 for bound in near} | {bound + 1 for bound in near}) + [-MUCH, MUCH, 0]

    def held_within(self, many, orders, weights, bound):
        told = within(plain_book(many, orders), weights, bound)
        self.assertEqual(told, plain_book(many, [order for order in orders if weight(order, weights) <= bound]))
        self.assertEqual((type(told), type(told[1])), (tuple, list))
        self.assertIsNone(look_book(told))

    def refused(self, error, *handed):
        before = deepcopy(handed)
        for call, more in ((lightest, ()), (within, (0,)), (within, (-MUCH,)), (within, (MUCH,))):
            with self.assertRaises(error, msg=repr((call, handed, more))) as caught:
                call(*handed, *more)
            self.assertIs(type(caught.exception), error)
        self.assertEqual(handed, before)


class Weighed(WeighingCase):
    def test_by_hand(self):
        weights = [[1, 2, 3], [10, 20, 30], [100, 200, 300]]
        book = book_of(3, [(0, 1, 2), (2, 1, 0), (1, 0, 2)])
        self.assertEqual(lightest(book, weights), (123, (2, 1, 0)))
        self.assertEqual(orders_in(within(book, weights, 122)), [])
        self.assertEqual(orders_in(within(book, weights, 123)), [(2, 1, 0)])
        self.assertEqual(orders_in(within(book, weights, 312)), [(1, 0, 2), (2, 1, 0)])
        self.assertEqual(orders_in(within(book, weights, 320)), [(1, 0, 2), (2, 1, 0)])
        self.assertEqual(within(book, weights, 321), book)

    def test_a_row_is_of_a_place_and_a_number_in_it_of_a_thing(self):
        weights = [[0, 0, -5], [0, 0, 0], [0, 0, 0]]
        every = plain_book(3, all_orders(3))
        self.assertEqual(lightest(every, weights), (-5, (2, 0, 1)))
        self.assertEqual(orders_in(within(every, weights, -1)), [(2, 0, 1), (2, 1, 0)])

    def test_every_set_of_1_to_3_things(self):
        for many in (1, 2, 3):
            for orders in subsets(all_orders(many)):
                for most in (1, 3, 1000):
                    self.held(many, orders, drawn_weights(many, most, most + len(orders)))

    def test_sets_of_1_to_8_things(self):
        for turn, (many, orders) in enumerate(some_sets()):
            if many > 3:
                for most in (0, 1, 2, 10, 1000):
                    self.held(many, orders, drawn_weights(many, most, turn))

    def test_all_orders(self):
        for many in range(1, 8):
            for most in (2, 1000):
                self.held(many, all_orders(many), drawn_weights(many, most, many))

    def test_all_orders_of_8_things(self):
        orders = all_orders(8)
        book = plain_book(8, orders)
        weights = drawn_weights(8, 1000, 8)
        told = lightest(book, weights)
        self.assertEqual(told, least(orders, weights))
        self.assertEqual(orders_in(within(book, weights, told[0])), [told[1]])
        self.assertEqual(within(book, weights, told[0] - 1), (8, [], 0))
        self.held_within(8, orders, weights, 0)
        self.assertEqual(within(book, weights, 8000), book)

    def test_the_least_order_where_several_weigh_the_least(self):
        for many in range(1, 9):
            orders = sorted(some_orders(many, min(len(all_orders(many)), 12), many))
            for number in (0, 7, -1000, 1000):
                weights = even_weights(many, number)
                told = lightest(plain_book(many, orders), weights)
                self.assertEqual(told, (number * many, orders[0]))
        # The lightest ones begin with other things than the least order does.
        weights = [[5, 0, 0, 0], [0, 0, 0, 0], [0, 0, 0, 0], [0, 0, 0, 0]]
        self.assertEqual(lightest(plain_book(4, all_orders(4)), weights), (0, (1, 0, 2, 3)))
        weights = [[0, 0, 0, 0], [0, 1, 0, 0], [0, 0, 0, 0], [0, 0, 0, 1]]
        self.assertEqual(lightest(plain_book(4, all_orders(4)), weights), (0, (0, 2, 3, 1)))

    def test_no_orders(self):
        for many in range(1, 9):
            weights = drawn_weights(many, 1000, many)
            self.assertIsNone(lightest((many, [], 0), weights))
            for bound in (0, -8000, 8000, MUCH, -MUCH):
                self.assertEqual(within((many, [], 0), weights, bound), (many, [], 0))

    def test_the_most_and_the_least_that_can_be_weighed(self):
        for many in range(1, 9):
            book = plain_book(many, some_orders(many, 1, many))
            order = orders_in(book)[0]
            for number in (-1000, 1000):
                weights = even_weights(many, number)
                total = number * many
                self.assertEqual(lightest(book, weights), (total, order))
                self.assertEqual(within(book, weights, total), book)
                self.assertEqual(within(book, weights, total - 1), (many, [], 0))
                self.assertEqual(within(book, weights, MUCH), book)
                self.assertEqual(within(book, weights, -MUCH), (many, [], 0))

    def test_each_bound_of_a_few_things(self):
        weights = drawn_weights(3, 4, 3)
        for bound in range(-14, 15):
            for orders in list(subsets(all_orders(3)))[::3]:
                self.held_within(3, orders, weights, bound)


class WeighingRefused(WeighingCase):
    def test_no_weights(self):
        for many in range(1, 9):
            single = plain_book(many, some_orders(many, 1, many))
            for weights in wrong_weights(many):
                self.refused(BadWeights, single, weights)

    def test_also_where_the_book_has_no_orders(self):
        for many in range(1, 9):
            for weights in wrong_weights(many):
                self.refused(BadWeights, (many, [], 0), weights)

    def test_also_at_places_and_things_that_no_order_has(self):
        book = book_of(3, [(0, 1, 2)])
        for place, thing in product(range(3), range(3)):
            for number in (1001, -1001):
                self.refused(BadWeights, book, with_weight(even_weights(3, 0), place, thing, number))

    def test_bounds_of_a_weight(self):
        book = book_of(3, [(0, 1, 2)])
        for place, thing in product(range(3), range(3)):
            for number in (1000, -1000):
                weights = with_weight(even_weights(3, 0), place, thing, number)
                self.assertEqual(lightest(book, weights), (number if place == thing else 0, (0, 1, 2)))

    def test_truths_and_other_rows(self):
        book = book_of(2, [(0, 1)])
        for weights in ([[0, True], [0, 0]], [[0, 0], [False, 0]], [(0, 0), (0, 0)], ([0, 0], [0, 0])):
            self.refused(BadWeights, book, weights)

    def test_no_books_ahead_of_weights(self):
        for wrong in no_books() + [(), (3,), (3, [])]:
            for weights in [even_weights(3, 0), even_weights(1, 0)] + list(wrong_weights(2)):
                self.refused(BadBook, wrong, weights)


class Kept(WeighingCase):
    def test_told_rooms_are_a_new_list(self):
        for book in every_book(2) + every_book(3)[::7]:
            weights = even_weights(book[0], 3)
            before = deepcopy((book, weights))
            for bound in (9, 8000, MUCH):
                told = within(book, weights, bound)
                self.assertEqual(told, book)
                self.assertIsNot(told[1], book[1])
                told[1].append("changed")
                self.assertEqual((book, weights), before)
                self.assertEqual(within(book, weights, bound), book)

    def test_weights_that_are_changed_later(self):
        book = plain_book(3, all_orders(3))
        weights = [[1, 2, 3], [10, 20, 30], [100, 200, 300]]
        one, told = within(book, weights, 200), lightest(book, weights)
        kept = deepcopy((one, told))
        weights[0][0] = -1000
        weights[2].clear()
        book[1].clear()
        self.assertEqual((one, told), kept)

    def test_one_row_for_all_places(self):
        row = [1, 2, 3]
        weights = [row, row, row]
        self.assertEqual(lightest(plain_book(3, all_orders(3)), weights), (6, (0, 1, 2)))
        self.assertEqual(weights, [[1, 2, 3]] * 3)


if __name__ == "__main__":
    unittest.main()
