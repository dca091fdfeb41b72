import unittest
from copy import deepcopy
from itertools import product

from ordernest.books import book_of, look_book, orders_in
from ordernest.errors import BadBook, BadOrder, Unlike
from ordernest.joining import joined
from ordernest.ruling import ruled
from ordernest.turning import behind, is_group, made_of, named, placed, turned
from tests.wording import (
    MUCH, all_orders, every_book, is_plain_group, no_books, plain_book, plain_group, some_orders, subsets,
    turned_plainly, with_behind,
)

EMPTY = [(many, [], 0) for many in range(1, 9)]
NO_ORDERS_OF_3 = [
    (), (0,), (0, 1), (1, 0), (0, 1, 2, 3), tuple(range(8)), tuple(range(9)), (0, 0, 1), (1, 2, 3), (0, 1, 3),
    (2, 2, 2), (-1, 0, 1), (0, 1, -1), (0, 1, MUCH), (-MUCH, 0, 1),
]


def plain(many):
    return tuple(range(many))


def drawn_sets(many):
    """Sets of orders: of none, of one, of some, of all where they are not too many."""
    orders = all_orders(many)
    sets = [[], [orders[0]], [orders[-1]], [orders[len(orders) // 3]]]
    sets += [some_orders(many, min(count, len(orders)), many + count) for count in (2, 5, 30)]
    return sets + [orders] if many < 6 else sets


def drawn_orders(many):
    orders = all_orders(many)
    return orders if many < 4 else [orders[0], orders[-1], orders[1]] + some_orders(many, 5, many)


class TurningCase(unittest.TestCase):
    def assert_book(self, told, many, orders):
        self.assertEqual(told, plain_book(many, orders))
        self.assertEqual(told, book_of(many, list(orders)))
        self.assertEqual((type(told), type(told[1])), (tuple, list))
        self.assertIsNone(look_book(told))

    def refused(self, error, call, *handed):
        before = deepcopy(handed)
        with self.assertRaises(error, msg=repr((call, handed))) as caught:
            call(*handed)
        self.assertIs(type(caught.exception), error)
        self.assertEqual(handed, before)

    def assert_new(self, told, *handed):
        for book in handed:
            self.assertIsNot(told[1], book[1])
        before = deepcopy(handed)
        told[1].append("changed")
        told[1].reverse()
        self.assertEqual(handed, before)


class Turned(TurningCase):
    def test_by_hand(self):
        self.assert_book(turned(book_of(3, [(1, 2, 0)])), 3, [(2, 0, 1)])
        self.assert_book(turned(book_of(4, [(3, 0, 2, 1), (0, 1, 2, 3)])), 4, [(1, 3, 2, 0), (0, 1, 2, 3)])
        self.assertEqual(turned((3, [], 0)), (3, [], 0))

    def test_every_set_of_1_to_3_things(self):
        for many in (1, 2, 3):
            for orders in subsets(all_orders(many)):
                told = turned(plain_book(many, orders))
                self.assert_book(told, many, [turned_plainly(order) for order in orders])

    def test_sets_of_1_to_8_things(self):
        for many in range(1, 9):
            for orders in drawn_sets(many):
                book = plain_book(many, orders)
                told = turned(book)
                self.assert_book(told, many, [turned_plainly(order) for order in orders])
                self.assertEqual(turned(told), book)

    def test_all_orders(self):
        for many in range(1, 9):
            every = plain_book(many, all_orders(many))
            self.assertEqual(turned(every), every)

    def test_no_books(self):
        for wrong in no_books() + [(), (3,), (3, [])]:
            self.refused(BadBook, turned, wrong)

    def test_handed_and_told(self):
        for many in range(1, 6):
            for orders in drawn_sets(many):
                book = plain_book(many, orders)
                told = turned(book)
                self.assertEqual(book, plain_book(many, orders))
                self.assert_new(told, book)


class NamedAndPlaced(TurningCase):
    def held(self, many, orders, order):
        book = plain_book(many, orders)
        before = deepcopy(book)
        self.assert_book(named(book, order), many, [with_behind(each, order) for each in orders])
        self.assert_book(placed(book, order), many, [with_behind(order, each) for each in orders])
        self.assertEqual(book, before)

    def test_by_hand(self):
        book = book_of(3, [(1, 2, 0)])
        self.assertEqual(named(book, (0, 2, 1)), book_of(3, [(2, 1, 0)]))
        self.assertEqual(placed(book, (0, 2, 1)), book_of(3, [(1, 0, 2)]))
        book = book_of(4, [(3, 0, 2, 1), (0, 1, 2, 3)])
        self.assertEqual(named(book, (1, 3, 0, 2)), book_of(4, [(2, 1, 0, 3), (1, 3, 0, 2)]))
        self.assertEqual(placed(book, (1, 3, 0, 2)), book_of(4, [(0, 1, 3, 2), (1, 3, 0, 2)]))

    def test_named_gives_things_other_names_and_placed_other_places(self):
        book = book_of(4, [(0, 1, 2, 3), (0, 1, 3, 2)])
        self.assertEqual(orders_in(named(book, (3, 2, 1, 0))), [(3, 2, 0, 1), (3, 2, 1, 0)])
        self.assertEqual(orders_in(placed(book, (3, 2, 1, 0))), [(2, 3, 1, 0), (3, 2, 1, 0)])
        self.assertEqual(orders_in(named(book, (1, 0, 2, 3))), [(1, 0, 2, 3), (1, 0, 3, 2)])
        self.assertEqual(orders_in(placed(book, (2, 0, 1, 3))), [(2, 0, 1, 3), (3, 0, 1, 2)])

    def test_told_apart(self):
        apart = 0
        for many in range(3, 9):
            for one, other in product(some_orders(many, 5, many), some_orders(many, 5, 9 + many)):
                book = plain_book(many, [one])
                if with_behind(one, other) != with_behind(other, one):
                    apart += 1
                    self.assertNotEqual(named(book, other), placed(book, other))
        self.assertGreater(apart, 50)

    def test_every_set_of_1_to_3_things_by_each_order(self):
        for many in (1, 2, 3):
            for orders in subsets(all_orders(many)):
                for order in all_orders(many):
                    self.held(many, orders, order)

    def test_each_two_orders_of_4_things(self):
        for one, other in product(all_orders(4), all_orders(4)):
            self.held(4, [one], other)

    def test_sets_of_1_to_8_things(self):
        for many in range(1, 9):
            for orders, order in product(drawn_sets(many), drawn_orders(many)):
                self.held(many, orders, order)

    def test_many_orders(self):
        for many, count in ((6, 360), (7, 1500), (8, 4000)):
            orders = some_orders(many, count, count)
            for order in some_orders(many, 2, many):
                self.held(many, orders, order)

    def test_all_orders(self):
        for many in range(1, 9):
            every = plain_book(many, all_orders(many))
            for order in drawn_orders(many):
                self.assertEqual(named(every, order), every)
                self.assertEqual(placed(every, order), every)

    def test_no_orders_and_orders_of_another_count(self):
        for book in every_book(3)[::5] + [(3, [], 0)]:
            for wrong in NO_ORDERS_OF_3:
                self.refused(BadOrder, named, book, wrong)
                self.refused(BadOrder, placed, book, wrong)
        for many, other in product(range(1, 9), range(0, 11)):
            for book in (EMPTY[many - 1], plain_book(many, [plain(many)])):
                if many != other:
                    self.refused(BadOrder, named, book, plain(other))
                    self.refused(BadOrder, placed, book, plain(other))

    def test_no_books_ahead_of_orders(self):
        for wrong in no_books() + [(), (3,), (3, [])]:
            for order in NO_ORDERS_OF_3 + [(0, 1, 2), (2, 0, 1)]:
                self.refused(BadBook, named, wrong, order)
                self.refused(BadBook, placed, wrong, order)

    def test_told_rooms_are_a_new_list(self):
        for many in range(1, 6):
            for orders in drawn_sets(many):
                book = plain_book(many, orders)
                for call in (named, placed):
                    self.assertEqual(call(book, plain(many)), book)
                    self.assert_new(call(book, plain(many)), book)
                    self.assertEqual(call(book, plain(many)), book)


class Behind(TurningCase):
    def held(self, many, one, other):
        books = plain_book(many, one), plain_book(many, other)
        before = deepcopy(books)
        told = behind(*books)
        self.assert_book(told, many, {with_behind(first, later) for first in one for later in other})
        self.assertEqual(books, before)

    def test_by_hand(self):
        one, other = book_of(3, [(1, 2, 0)]), book_of(3, [(0, 2, 1)])
        self.assertEqual(behind(one, other), book_of(3, [(2, 1, 0)]))
        self.assertEqual(behind(other, one), book_of(3, [(1, 0, 2)]))
        pair = book_of(3, [(0, 1, 2), (1, 2, 0)])
        self.assertEqual(orders_in(behind(pair, other)), [(0, 2, 1), (2, 1, 0)])
        self.assertEqual(orders_in(behind(other, pair)), [(0, 2, 1), (1, 0, 2)])
        self.assertEqual(orders_in(behind(pair, pair)), [(0, 1, 2), (1, 2, 0), (2, 0, 1)])

    def test_each_two_orders_of_1_to_4_things(self):
        for many in range(1, 5):
            for one, other in product(all_orders(many), all_orders(many)):
                self.held(many, [one], [other])

    def test_every_two_sets_of_1_to_3_things(self):
        for many in (1, 2, 3):
            books = every_book(many)
            for one, other in product(books, books):
                meant = {with_behind(first, later) for first in orders_in(one) for later in orders_in(other)}
                self.assertEqual(behind(one, other), plain_book(many, meant))

    def test_sets_of_1_to_8_things(self):
        for many in range(1, 9):
            for one, other in product(drawn_sets(many), drawn_sets(many)):
                if len(one) * len(other) <= 15000:
                    self.held(many, one, other)

    def test_many_orders(self):
        for many, first, later in ((6, 60, 60), (7, 300, 40), (7, 40, 300), (8, 200, 150), (8, 4000, 2), (8, 2, 4000)):
            self.held(many, some_orders(many, first, 1), some_orders(many, later, 2))

    def test_not_the_other_way_round(self):
        for many in range(3, 9):
            one, other = some_orders(many, 2, many), some_orders(many, 2, 20 + many)
            meant = {with_behind(first, later) for first in one for later in other}
            opposite = {with_behind(later, first) for first in one for later in other}
            self.assertNotEqual(meant, opposite)
            self.assertEqual(behind(plain_book(many, one), plain_book(many, other)), plain_book(many, meant))
            self.assertEqual(behind(plain_book(many, other), plain_book(many, one)), plain_book(many, opposite))

    def test_none_one_and_all(self):
        for many in range(1, 9):
            none, every = (many, [], 0), plain_book(many, all_orders(many))
            for order in drawn_orders(many):
                single = plain_book(many, [order])
                self.assertEqual(behind(single, every), every)
                self.assertEqual(behind(every, single), every)
                self.assertEqual(behind(single, none), none)
                self.assertEqual(behind(none, single), none)
            self.assertEqual(behind(every, every), every)
            self.assertEqual(behind(every, none), none)
            self.assertEqual(behind(none, every), none)
            self.assertEqual(behind(none, none), none)

    def test_halves_and_parts_of_8_things(self):
        even, odd = ruled(8, ("even",)), ruled(8, ("not", ("even",)))
        self.assertEqual(behind(even, even), even)
        self.assertEqual(behind(odd, odd), even)
        self.assertEqual(behind(even, odd), odd)
        self.assertEqual(behind(odd, even), odd)
        # An order that has 2 at the place 5 holds there what the other has at the place 2.
        self.assertEqual(behind(ruled(8, ("at", 5, 2)), ruled(8, ("at", 2, 7))), ruled(8, ("at", 5, 7)))
        self.assertEqual(behind(ruled(8, ("at", 5, 2)), ruled(8, ("at", 3, 7))), ruled(8, ("not", ("at", 5, 7))))

    def test_the_first_book_that_is_none_then_the_second_then_unlike_counts(self):
        good = EMPTY + [plain_book(many, all_orders(many)) for many in range(1, 5)]
        for wrong in no_books() + [()]:
            for book in good:
                self.refused(BadBook, behind, wrong, book)
                self.refused(BadBook, behind, book, wrong)
            self.refused(BadBook, behind, wrong, wrong)
        for one, other in product(good, good):
            if one[0] != other[0]:
                self.refused(Unlike, behind, one, other)

    def test_told_rooms_are_a_new_list(self):
        for many in range(1, 6):
            single = plain_book(many, [plain(many)])
            for orders in drawn_sets(many):
                book = plain_book(many, orders)
                for handed in ((book, single), (single, book)):
                    told = behind(*handed)
                    self.assertEqual(told, book)
                    self.assert_new(told, *handed)
                    self.assertEqual(behind(*handed), book)
            self.assert_new(behind(single, single), single)

    def test_the_same_book_twice(self):
        book = plain_book(4, some_orders(4, 5, 4))
        orders = orders_in(book)
        self.assert_book(behind(book, book), 4, {with_behind(one, other) for one in orders for other in orders})


class MadeOf(TurningCase):
    def held(self, many, orders):
        handed = list(orders)
        told = made_of(many, handed)
        self.assert_book(told, many, plain_group(many, orders))
        self.assertEqual(handed, orders)
        self.assertIs(is_group(told), True)

    def test_none(self):
        for many in range(1, 7):
            self.assertEqual(made_of(many, []), plain_book(many, [plain(many)]))
            self.assertEqual(made_of(many, [plain(many)]), plain_book(many, [plain(many)]))

    def test_by_hand(self):
        self.assertEqual(orders_in(made_of(3, [(1, 2, 0)])), [(0, 1, 2), (1, 2, 0), (2, 0, 1)])
        self.assertEqual(orders_in(made_of(3, [(1, 0, 2)])), [(0, 1, 2), (1, 0, 2)])
        self.assertEqual(orders_in(made_of(4, [(1, 0, 2, 3), (0, 1, 3, 2)])),
                         [(0, 1, 2, 3), (0, 1, 3, 2), (1, 0, 2, 3), (1, 0, 3, 2)])
        self.assertEqual(orders_in(made_of(4, [(1, 2, 3, 0)])),
                         [(0, 1, 2, 3), (1, 2, 3, 0), (2, 3, 0, 1), (3, 0, 1, 2)])

    def test_every_set_of_1_to_3_things(self):
        for many in (1, 2, 3):
            for orders in subsets(all_orders(many)):
                self.held(many, orders)

    def test_one_and_two_of_4_things(self):
        for one, other in product(all_orders(4), all_orders(4)):
            self.held(4, [one, other])

    def test_drawn_of_5_and_6_things(self):
        for many in (5, 6):
            for seed, count in enumerate((1, 1, 1, 2, 2, 2, 3, 4)):
                self.held(many, some_orders(many, count, 100 * many + seed))

    def test_few_that_come_of_few(self):
        self.held(6, [(1, 0, 2, 3, 4, 5), (0, 1, 3, 2, 4, 5), (0, 1, 2, 3, 5, 4)])
        self.held(6, [(1, 2, 0, 3, 4, 5), (0, 1, 2, 4, 5, 3)])
        self.held(6, [(1, 2, 0, 3, 4, 5), (3, 4, 5, 0, 1, 2)])
        self.held(6, [(5, 4, 3, 2, 1, 0)])
        self.held(6, [(1, 2, 3, 4, 5, 0)])
        self.held(5, [(1, 2, 3, 4, 0), (0, 4, 3, 2, 1)])

    def test_all_720(self):
        every = plain_book(6, all_orders(6))
        neighbours = [tuple(range(k)) + (k + 1, k) + tuple(range(k + 2, 6)) for k in range(5)]
        for orders in ([(1, 0, 2, 3, 4, 5), (1, 2, 3, 4, 5, 0)], neighbours, all_orders(6), all_orders(6)[1:]):
            self.assertEqual(made_of(6, orders), every)
        even = ruled(6, ("even",))
        self.assertEqual(made_of(6, orders_in(even)), even)
        self.assertEqual(made_of(6, orders_in(even) + [(1, 0, 2, 3, 4, 5)]), every)

    def test_like_ones(self):
        for many in range(1, 7):
            orders = some_orders(many, 1, many)
            once = made_of(many, orders)
            self.assertEqual(made_of(many, orders * 5), once)
            self.assertEqual(made_of(many, [plain(many)] + orders * 2 + [plain(many)] * 3), once)

    def test_counts_that_are_too_many_or_none(self):
        for many in (7, 8, 9, 10, 0, -1, -6, MUCH, -MUCH):
            for orders in ([], [(0,)], [plain(6)], [()], [plain(7)], [plain(8)], [plain(7), plain(8)]):
                self.refused(BadOrder, made_of, many, orders)

    def test_no_orders_and_orders_of_another_count(self):
        for wrong in NO_ORDERS_OF_3:
            for orders in ([wrong], [(1, 0, 2), wrong], [wrong, (1, 0, 2)], [(0, 1, 2)] * 3 + [wrong, (2, 1, 0)]):
                self.refused(BadOrder, made_of, 3, orders)
        for many, other in product(range(1, 7), range(0, 9)):
            if many != other:
                self.refused(BadOrder, made_of, many, [plain(other)])

    def test_told_rooms_are_a_new_list(self):
        orders = [(1, 0, 2)]
        told = made_of(3, orders)
        told[1].clear()
        self.assertEqual(orders, [(1, 0, 2)])
        self.assertEqual(orders_in(made_of(3, orders)), [(0, 1, 2), (1, 0, 2)])


class IsGroup(TurningCase):
    def held(self, many, orders):
        book = plain_book(many, orders)
        before = deepcopy(book)
        self.assertIs(is_group(book), is_plain_group(many, orders))
        self.assertEqual(book, before)

    def test_no_orders(self):
        for book in EMPTY:
            self.assertIs(is_group(book), False)

    def test_every_set_of_1_to_3_things(self):
        groups = 0
        for many in (1, 2, 3):
            for orders in subsets(all_orders(many)):
                self.held(many, orders)
                groups += is_plain_group(many, orders)
        self.assertEqual(groups, 1 + 2 + 6)

    def test_sets_of_4_things(self):
        for one, other in product(all_orders(4), all_orders(4)):
            self.held(4, [one, other])
            self.held(4, {plain(4), one, other})

    def test_the_plain_one_alone_and_all(self):
        for many in range(1, 9):
            self.assertIs(is_group(plain_book(many, [plain(many)])), True)
            self.assertIs(is_group(plain_book(many, all_orders(many))), True)

    def test_a_set_without_the_plain_order(self):
        # What is put behind one another leads out of some of these sets, and not of others.
        for many in range(2, 9):
            every = all_orders(many)
            self.assertIs(is_group(plain_book(many, every[1:])), False)
            self.assertIs(is_group(plain_book(many, every[1:2])), False)
            self.assertIs(is_group(ruled(many, ("not", ("even",)))), False)

    def test_one_left_out_or_put_in(self):
        for many, orders in ((3, [(1, 2, 0)]), (4, [(1, 0, 3, 2), (2, 3, 0, 1)]),
                             (5, [(1, 2, 3, 4, 0), (0, 4, 3, 2, 1)]),
                             (6, [(1, 2, 0, 3, 4, 5), (3, 4, 5, 0, 1, 2)]), (7, [(1, 2, 3, 4, 5, 6, 0)]),
                             (8, [(1, 2, 3, 4, 5, 6, 7, 0), (7, 6, 5, 4, 3, 2, 1, 0)])):
            group = plain_group(many, orders)
            self.assertIs(is_group(plain_book(many, group)), True)
            for order in group:
                self.assertIs(is_group(plain_book(many, group - {order})), False)
            for order in some_orders(many, 6, many):
                if order not in group:
                    self.assertIs(is_group(plain_book(many, group | {order})), False)

    def test_closed_but_for_one_pair(self):
        # Each order turned is there, and yet one put behind another is not; and the other way round.
        self.held(3, [(0, 1, 2), (1, 0, 2), (0, 2, 1)])
        self.held(3, [(0, 1, 2), (1, 2, 0)])
        self.held(4, [(0, 1, 2, 3), (1, 2, 3, 0), (3, 0, 1, 2)])
        self.held(4, [(0, 1, 2, 3), (1, 0, 2, 3), (0, 1, 3, 2), (1, 0, 3, 2)])

    def test_of_7_and_8_things(self):
        for many in (7, 8):
            every = plain_book(many, all_orders(many))
            for rule in (("even",), ("at", 0, 0), ("both", ("at", 3, 3), ("at", 6, 6)),
                         ("both", ("even",), ("at", 1, 1))):
                book = ruled(many, rule)
                self.assertIs(is_group(book), True)
                self.assertIs(is_group(joined("less", every, book)), False)
                self.assertIs(is_group(joined("less", book, plain_book(many, orders_in(book)[-1:]))), False)
            for rule in (("at", 0, 1), ("ahead", 0, 1), ("either", ("at", 0, 0), ("even",)), ("next", 0, 1)):
                self.assertIs(is_group(ruled(many, rule)), False)
            self.assertIs(is_group(plain_book(many, all_orders(many)[:-1])), False)

    def test_no_books(self):
        for wrong in no_books() + [(), (3,), (3, [])]:
            self.refused(BadBook, is_group, wrong)


if __name__ == "__main__":
    unittest.main()
