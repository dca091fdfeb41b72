import unittest
from itertools import combinations, product

from ordernest.errors import BadOrder
from ordernest.orders import behind_order, crossings, look_order, turned_order
from tests.wording import MUCH, all_orders, some_orders

NO_ORDERS = [
    (), (1,), (-1,), (2,), (MUCH,), (-MUCH,),
    (0, 0), (1, 1), (0, 2), (1, 2), (-1, 0), (0, MUCH), (-MUCH, 0),
    (0, 1, 1), (1, 2, 3), (0, 1, 3), (2, 2, 2), (-1, 0, 1), (-2, -1, 0),
    (0, 1, 2, 3, 4, 5, 6, 6), (0, 1, 2, 3, 4, 5, 6, 8), (1, 2, 3, 4, 5, 6, 7, 8),
    (0, 1, 2, 3, 4, 5, 6, 7, 8), (8, 7, 6, 5, 4, 3, 2, 1, 0), (0, 1, 2, 3, 4, 5, 6, 7, 7),
    tuple(range(10)), tuple(range(100)),
]
NO_COUNTS = [0, 9, 10, -1, -2, -8, MUCH, -MUCH]


def plain_and_some(many):
    if many <= 5:
        return all_orders(many)
    return [tuple(range(many)), tuple(reversed(range(many)))] + some_orders(many, 40, many)


def changed(order):
    """The order with one number changed, left out, put in, told twice."""
    many = len(order)
    numbers = list(range(-2, many + 3)) + [MUCH, -MUCH]
    for place in range(many):
        yield order[:place] + order[place + 1:]
        yield order[:place] + (order[place],) + order[place:]
        for number in numbers:
            if number != order[place]:
                yield order[:place] + (number,) + order[place + 1:]
    for place, number in product(range(many + 1), numbers):
        yield order[:place] + (number,) + order[place:]


class OrderCase(unittest.TestCase):
    def refused(self, call, *handed):
        with self.assertRaises(BadOrder, msg=repr((call, handed))):
            call(*handed)


class Looked(OrderCase):
    def test_orders_of_1_to_8_things(self):
        for many in range(1, 9):
            for order in plain_and_some(many):
                self.assertIsNone(look_order(many, order))

    def test_another_count(self):
        for many in range(1, 9):
            for order in plain_and_some(many)[:10]:
                for other in list(range(-2, 12)) + NO_COUNTS:
                    if other != many:
                        self.refused(look_order, other, order)

    def test_counts_past_the_bounds_with_a_tuple_of_as_many(self):
        self.refused(look_order, 0, ())
        self.refused(look_order, 9, tuple(range(9)))
        self.refused(look_order, 10, tuple(range(10)))

    def test_no_orders(self):
        for order in NO_ORDERS:
            self.refused(look_order, len(order), order)
            for many in range(1, 9):
                self.refused(look_order, many, order)

    def test_one_number_changed_left_out_put_in_or_told_twice(self):
        for many in (1, 2, 3, 4, 8):
            for order in plain_and_some(many)[:24]:
                for other in changed(order):
                    self.refused(look_order, many, other)

    def test_truths_are_no_whole_numbers(self):
        self.refused(look_order, 2, (False, True))
        self.refused(look_order, 2, (0, True))
        self.refused(look_order, True, (0,))

    def test_a_list_is_no_order(self):
        self.refused(look_order, 2, [0, 1])


class RefusedByTheOthers(OrderCase):
    def test_no_orders(self):
        for order in NO_ORDERS:
            self.refused(turned_order, order)
            self.refused(crossings, order)
            self.refused(behind_order, order, order)
            self.refused(behind_order, order, (0, 1))
            self.refused(behind_order, (0, 1), order)

    def test_just_where_it_is_due(self):
        for many in (1, 2, 3, 4, 8):
            for order in plain_and_some(many)[:6]:
                for other in changed(order):
                    self.refused(behind_order, order, other)
                    self.refused(behind_order, other, order)
                    if sorted(other) == list(range(len(other))) and 1 <= len(other) <= 8:
                        turned_order(other)
                        crossings(other)
                        behind_order(other, other)
                    else:
                        self.refused(turned_order, other)
                        self.refused(crossings, other)
                        self.refused(behind_order, other, other)

    def test_unlike_counts(self):
        for one, other in product(range(1, 9), range(1, 9)):
            if one != other:
                self.refused(behind_order, tuple(range(one)), tuple(range(other)))


class Told(OrderCase):
    def test_turned_by_hand(self):
        self.assertEqual(turned_order((0,)), (0,))
        self.assertEqual(turned_order((1, 2, 0)), (2, 0, 1))
        self.assertEqual(turned_order((3, 0, 2, 1)), (1, 3, 2, 0))
        self.assertEqual(turned_order((7, 0, 1, 2, 3, 4, 5, 6)), (1, 2, 3, 4, 5, 6, 7, 0))

    def test_turned_tells_for_each_thing_its_place(self):
        for many in range(1, 9):
            for order in plain_and_some(many):
                told = turned_order(order)
                self.assertIsInstance(told, tuple)
                self.assertEqual(told, tuple(order.index(thing) for thing in range(many)))

    def test_behind_by_hand(self):
        self.assertEqual(behind_order((0,), (0,)), (0,))
        self.assertEqual(behind_order((1, 2, 0), (0, 2, 1)), (2, 1, 0))
        self.assertEqual(behind_order((0, 2, 1), (1, 2, 0)), (1, 0, 2))
        self.assertEqual(behind_order((3, 0, 2, 1), (1, 3, 0, 2)), (2, 1, 0, 3))

    def test_behind_has_at_each_place_what_the_other_has_where_the_one_tells(self):
        for many in range(1, 9):
            orders = plain_and_some(many)[:30]
            for one, other in product(orders, orders):
                told = behind_order(one, other)
                self.assertIsInstance(told, tuple)
                self.assertEqual(len(told), many)
                for place in range(many):
                    self.assertEqual(told[place], other[one[place]])

    def test_crossings_by_hand(self):
        self.assertEqual(crossings((0,)), 0)
        self.assertEqual(crossings((1, 2, 0)), 2)
        self.assertEqual(crossings((2, 0, 1)), 2)
        self.assertEqual(crossings((3, 0, 2, 1)), 4)
        self.assertEqual(crossings((0, 1, 2, 3, 4, 5, 6, 7)), 0)
        self.assertEqual(crossings((7, 6, 5, 4, 3, 2, 1, 0)), 28)

    def test_crossings_are_the_pairs_the_greater_one_stands_ahead_in(self):
        for many in range(1, 9):
            for order in plain_and_some(many):
                pairs = [1 for less, greater in combinations(range(many), 2)
                         if order.index(greater) < order.index(less)]
                told = crossings(order)
                self.assertEqual(told, len(pairs))
                self.assertIs(type(told), int)


if __name__ == "__main__":
    unittest.main()
