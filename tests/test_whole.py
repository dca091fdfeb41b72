"""What the document promises over the whole program, and its interface."""

import inspect
import unittest
from copy import deepcopy
from importlib import import_module
from itertools import product
from random import Random

from ordernest import errors
from ordernest.books import book_of, has, look_book, orders_in
from ordernest.joining import joined, parting
from ordernest.numbers import how_many, number_of, order_at
from ordernest.orders import behind_order, turned_order
from ordernest.ruling import cut, ruled
from ordernest.texts import read, written
from ordernest.turning import behind, is_group, made_of, named, placed, turned
from ordernest.weighing import lightest, within
from tests.wording import MUCH, all_orders, drawn_weights, no_books, plain_book, some_orders

INTERFACE = {
    "orders": {"look_order": "many order", "turned_order": "order", "behind_order": "one other", "crossings": "order"},
    "books": {"look_book": "book", "book_of": "many orders", "orders_in": "book", "has": "book order"},
    "joining": {"joined": "word one other", "parting": "one other"},
    "numbers": {"how_many": "book", "order_at": "book number", "number_of": "book order"},
    "ruling": {"ruled": "many rule", "cut": "book rule"},
    "turning": {"turned": "book", "named": "book order", "placed": "book order", "behind": "one other",
                "made_of": "many orders", "is_group": "book"},
    "weighing": {"lightest": "book weights", "within": "book weights bound"},
    "texts": {"written": "book", "read": "text"},
}
ERRORS = ["NestError", "BadOrder", "BadBook", "Unlike", "BadRule", "BadNumber", "BadWeights", "BadText"]
WEIGHTS = [[3, 1, 2], [1, 2, 3], [2, 3, 1]]
# Each call that takes a book, with the book left out, and what else it takes as it should be and as it should not.
OF_A_BOOK = [
    (look_book, [()]), (orders_in, [()]), (how_many, [()]), (turned, [()]), (is_group, [()]), (written, [()]),
    (has, [((0, 1, 2),), ((0, 1),), ((0, 0, 1),)]), (number_of, [((0, 1, 2),), ((0, 1),), ((0, 0, 1),)]),
    (named, [((0, 1, 2),), ((0, 1),), ((0, 0, 1),)]), (placed, [((0, 1, 2),), ((0, 1),), ((0, 0, 1),)]),
    (order_at, [(0,), (-1,), (MUCH,)]), (cut, [(("even",),), (("none",),), (("at", 9, 9),)]),
    (lightest, [(WEIGHTS,), ([],), ([[1001]],)]), (within, [(WEIGHTS, 0), ([], 0), ([[1001]], MUCH)]),
]


def all_calls(one, other, order, weights):
    """Each call of the program that takes such as these."""
    many = one[0]
    orders = orders_in(one)
    calls = [
        (look_book, (one,)), (orders_in, (one,)), (has, (one, order)), (book_of, (many, orders)),
        (parting, (one, other)), (how_many, (one,)), (number_of, (one, order)), (cut, (one, ("not", ("even",)))),
        (turned, (one,)),
        (named, (one, order)), (placed, (one, order)), (behind, (one, other)), (is_group, (one,)),
        (lightest, (one, weights)), (within, (one, weights, 5)), (written, (one,)), (read, (written(one),)),
        (ruled, (many, ("even",))),
    ]
    calls += [(joined, (word, one, other)) for word in ("or", "and", "less", "odd")]
    if orders:
        calls.append((order_at, (one, len(orders) - 1)))
    if many <= 6:
        calls.append((made_of, (many, orders[:3])))
    return calls


def sets_of(many, chance):
    orders = all_orders(many)
    return [[], orders[:1], orders[:3], orders, chance.sample(orders, (len(orders) + 1) // 2)]


def drawn_calls(seed):
    """The count of things, a call and what it takes, for sets of orders of 1 to 5 things."""
    chance = Random(seed)
    for many in range(1, 6):
        for one, other in product(sets_of(many, chance), sets_of(many, chance)):
            books = plain_book(many, one), plain_book(many, other)
            order, weights = chance.choice(all_orders(many)), drawn_weights(many, 9, many)
            for call, handed in all_calls(*books, order, weights):
                yield many, call, deepcopy(handed)


class Interface(unittest.TestCase):
    def test_names_and_arguments(self):
        for module, calls in INTERFACE.items():
            for name, arguments in calls.items():
                call = getattr(import_module(f"ordernest.{module}"), name)
                self.assertEqual(list(inspect.signature(call).parameters), arguments.split(), name)

    def test_errors(self):
        for name in ERRORS:
            self.assertTrue(issubclass(getattr(errors, name), ValueError))

    def test_arguments_by_name(self):
        book = plain_book(2, [(1, 0)])
        self.assertEqual(named(book=book, order=(1, 0)), plain_book(2, [(0, 1)]))
        self.assertEqual(behind(one=book, other=book), plain_book(2, [(0, 1)]))
        self.assertEqual(within(book=book, weights=[[0, 0], [0, 0]], bound=0), book)
        self.assertEqual(read(text=written(book=book)), book)
        self.assertEqual(made_of(many=2, orders=[]), plain_book(2, [(0, 1)]))


class Kept(unittest.TestCase):
    def test_nothing_that_is_handed_in_is_changed_or_kept(self):
        for _, call, handed in drawn_calls(1):
            self.held(call, handed)

    def held(self, call, handed):
        before = deepcopy(handed)
        told = call(*handed)
        self.assertEqual(handed, before, call)
        again = call(*handed)
        self.assertEqual(again, told, call)
        kept = deepcopy(told)
        self.spoil(again)
        self.assertEqual(told, kept, call)
        self.assertEqual(handed, before, call)
        self.assertEqual(call(*handed), kept, call)
        for part in handed:
            self.spoil(part)
        self.assertEqual(told, kept, call)
        self.assertEqual(call(*deepcopy(before)), kept, call)

    def spoil(self, value):
        """Changes each list within a value that may be changed."""
        if isinstance(value, (list, tuple)):
            for part in value:
                self.spoil(part)
        if isinstance(value, list):
            value.append("changed")
            value.reverse()


class OneBook(unittest.TestCase):
    def test_what_is_made_of_books_is_the_very_book(self):
        for many, call, handed in drawn_calls(2):
            told = call(*handed)
            if isinstance(told, tuple) and len(told) == 3 and isinstance(told[1], list):
                look_book(told)
                self.assertEqual(told, plain_book(many, orders_in(told)))

    def test_the_same_set_come_to_in_several_ways(self):
        for many in range(2, 9):
            even, odd = ruled(many, ("even",)), ruled(many, ("not", ("even",)))
            every = joined("or", even, odd)
            swap = tuple([1, 0] + list(range(2, many)))
            for book in (named(odd, swap), placed(odd, swap), behind(odd, odd), turned(even),
                         joined("less", every, odd), cut(every, ("even",)), read(written(even)),
                         within(even, [[0] * many] * many, 0)):
                self.assertEqual(book, even)
            self.assertIs(is_group(even), True)
            self.assertIs(is_group(odd), False)

    def test_named_and_placed_and_behind_and_turned_hang_together(self):
        for many in range(1, 9):
            count = min(len(all_orders(many)), 3)
            one, other = [plain_book(many, some_orders(many, count, seed)) for seed in (1, 2)]
            order, later = some_orders(many, 1, 3)[0], some_orders(many, 1, 4)[0]
            self.assertEqual(turned(behind(one, other)), behind(turned(other), turned(one)))
            self.assertEqual(named(one, order), behind(one, plain_book(many, [order])))
            self.assertEqual(placed(one, order), behind(plain_book(many, [order]), one))
            self.assertEqual(named(named(one, order), later), named(one, behind_order(order, later)))
            self.assertEqual(placed(placed(one, order), later), placed(one, behind_order(later, order)))
            self.assertEqual(named(named(one, order), turned_order(order)), one)
            self.assertEqual(placed(placed(one, order), turned_order(order)), one)

    def test_how_many_come_of_few(self):
        self.assertEqual(how_many(made_of(6, [(1, 2, 3, 4, 5, 0)])), 6)
        self.assertEqual(how_many(made_of(6, [(1, 0, 2, 3, 4, 5), (1, 2, 3, 4, 5, 0)])), 720)
        self.assertEqual(how_many(made_of(5, [(1, 2, 0, 3, 4), (0, 1, 3, 4, 2)])), 60)


class LookedAtFromTheLeft(unittest.TestCase):
    def test_a_book_that_is_none_ahead_of_all_else(self):
        for wrong in no_books() + [(), (3,), (3, []), (3, [], 0, 0)]:
            for call, others in OF_A_BOOK:
                for handed in others:
                    with self.assertRaises(errors.BadBook, msg=repr((call, wrong, handed))):
                        call(wrong, *handed)

    def test_then_what_is_left(self):
        book = plain_book(3, all_orders(3))
        for call, others in OF_A_BOOK:
            call(book, *others[0])
            for handed in others[1:]:
                with self.assertRaises(errors.NestError) as caught:
                    call(book, *handed)
                self.assertNotIsInstance(caught.exception, errors.BadBook)

    def test_two_books(self):
        book, larger = plain_book(3, all_orders(3)), plain_book(4, all_orders(4))
        for call in (parting, behind, lambda *books: joined("or", *books)):
            for wrong in no_books():
                for handed in ((wrong, book), (book, wrong), (larger, wrong), (wrong, wrong)):
                    with self.assertRaises(errors.BadBook):
                        call(*handed)
            with self.assertRaises(errors.Unlike):
                call(book, larger)


class Numbers(unittest.TestCase):
    def test_numbers_of_15_figures(self):
        book = plain_book(3, all_orders(3))
        for number in (MUCH, -MUCH):
            for call, error in ((lambda: order_at(book, number), errors.BadNumber),
                                (lambda: book_of(number, []), errors.BadOrder),
                                (lambda: made_of(number, []), errors.BadOrder),
                                (lambda: ruled(number, ("even",)), errors.BadOrder),
                                (lambda: ruled(3, ("at", number, 0)), errors.BadRule),
                                (lambda: has(book, (0, 1, number)), errors.BadOrder),
                                (lambda: named(book, (0, 1, number)), errors.BadOrder),
                                (lambda: placed(book, (number, 0, 1)), errors.BadOrder),
                                (lambda: turned((3, [], number)), errors.BadBook),
                                (lambda: lightest(book, [[number, 0, 0], [0, 0, 0], [0, 0, 0]]), errors.BadWeights),
                                (lambda: read(f"3 {number}"), errors.BadText)):
                with self.assertRaises(error):
                    call()
        self.assertEqual(within(book, WEIGHTS, MUCH), book)
        self.assertEqual(within(book, WEIGHTS, -MUCH), (3, [], 0))


if __name__ == "__main__":
    unittest.main()
