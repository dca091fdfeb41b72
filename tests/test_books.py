import unittest
from copy import deepcopy
from itertools import permutations, product
from random import Random

from ordernest.books import book_of, has, look_book, orders_in
from ordernest.errors import BadBook, BadOrder
from tests.wording import (
    MUCH, all_orders, every_book, moved, plain_book, rows_of_rooms, some_orders, some_sets, subsets,
)

NO_COUNTS = [0, 9, 10, -1, -8, MUCH, -MUCH]
ALL_OF_THREE = (3, [
    ((2, 1),),
    ((1, 1),),
    ((1, 2), (2, 3)),
    ((0, 1),),
    ((0, 2), (2, 5)),
    ((0, 3), (1, 5)),
    ((0, 4), (1, 6), (2, 7)),
], 8)


def with_room(book, place, *rooms):
    """The book with the room at a place of its list put aside for others."""
    return (book[0], book[1][:place] + list(rooms) + book[1][place + 1:], book[2])


def with_door(book, place, turn, *doors):
    room = book[1][place]
    return with_room(book, place, room[:turn] + doors + room[turn + 1:])


def broken_doors(book):
    for place, room in enumerate(book[1]):
        yield with_room(book, place, room[::-1])
        yield with_room(book, place, ())
        for turn, (thing, number) in enumerate(room):
            yield with_door(book, place, turn)
            yield with_door(book, place, turn, (thing, number), (thing, number))
            for other in list(range(-2, book[0] + 3)) + [MUCH, -MUCH]:
                yield with_door(book, place, turn, (other, number))
                yield with_door(book, place, turn, (thing, number), (other, number))
            for other in list(range(-2, len(book[1]) + 5)) + [MUCH, -MUCH]:
                yield with_door(book, place, turn, (thing, other))
                yield with_door(book, place, turn, (thing, number), (thing, other))


def shifted(book, start, step):
    """The book with each number from the start on raised by a step."""
    raised = [tuple((thing, to + step if to >= start else to) for thing, to in room) for room in book[1]]
    return (book[0], raised, book[2] + step if book[2] >= start else book[2])


def broken_rooms(book):
    for place, room in enumerate(book[1]):
        yield with_room(book, place)
        yield with_room(shifted(book, place + 3, -1), place)
        yield with_room(book, place, room, room)
        twice = shifted(book, place + 3, 1)
        yield with_room(twice, place, room, room)
        yield with_room(twice, place, twice[1][place], ((0, 1),))
    yield (book[0], book[1] + [((0, 1),)], book[2])
    yield (book[0], book[1] + book[1], book[2])
    yield (book[0], book[1] + [()], book[2])
    yield (book[0], [()] + book[1], book[2])


def broken_ends(book):
    for many in list(range(-1, 11)) + [MUCH, -MUCH]:
        yield (many, book[1], book[2])
    for first in list(range(-2, len(book[1]) + 5)) + [MUCH, -MUCH]:
        yield (book[0], book[1], first)


class BookCase(unittest.TestCase):
    def refused(self, book):
        handed = deepcopy(book)
        for call in (look_book, orders_in):
            with self.assertRaises(BadBook, msg=repr(book)):
                call(book)
        for order in ((0,), (0, 1, 2), (0, 0), ()):
            with self.assertRaises(BadBook, msg=repr(book)):
                has(book, order)
        self.assertEqual(book, handed)

    def held_against(self, books, others):
        """Of the others just those are books that stand among the books."""
        for other in others:
            if other in books:
                self.assertIsNone(look_book(other))
            else:
                self.refused(other)


class BookOf(BookCase):
    def test_by_hand(self):
        self.assertEqual(book_of(1, [(0,)]), (1, [((0, 1),)], 2))
        self.assertEqual(book_of(2, [(1, 0)]), (2, [((0, 1),), ((1, 2),)], 3))
        self.assertEqual(book_of(3, all_orders(3)), ALL_OF_THREE)
        self.assertEqual(
            book_of(3, [(2, 1, 0), (0, 1, 2), (0, 2, 1)]),
            (3, [((2, 1),), ((1, 1),), ((1, 2), (2, 3)), ((0, 1),), ((1, 5),), ((0, 4), (2, 6))], 7))

    def test_rooms_are_shared_at_unlike_doors(self):
        self.assertEqual(
            book_of(4, [(0, 1, 2, 3), (1, 0, 2, 3)]),
            (4, [((3, 1),), ((2, 2),), ((1, 3),), ((0, 3),), ((0, 4), (1, 5))], 6))

    def test_no_orders(self):
        for many in range(1, 9):
            self.assertEqual(book_of(many, []), (many, [], 0))

    def test_all_orders_have_a_room_for_each_set_of_things(self):
        for many in range(1, 9):
            book = book_of(many, all_orders(many))
            self.assertEqual(len(book[1]), 2 ** many - 1)
            self.assertEqual(sorted(len(room) for room in book[1]),
                             sorted(bin(bits).count("1") for bits in range(1, 2 ** many)))
            self.assertIsNone(look_book(book))

    def test_room_by_room(self):
        for many, orders in some_sets():
            book = book_of(many, orders)
            self.assertEqual(book, plain_book(many, orders))
            self.assertEqual((type(book), type(book[1])), (tuple, list))
            self.assertIsNone(look_book(book))

    def test_like_orders_and_any_turn(self):
        for many, orders in some_sets():
            shuffled = orders + orders[:2] + orders[1:]
            Random(many).shuffle(shuffled)
            self.assertEqual(book_of(many, shuffled), plain_book(many, orders))

    def test_equal_just_where_the_sets_are(self):
        for many in (1, 2, 3):
            books = [book_of(many, orders) for orders in subsets(all_orders(many))]
            for one, other in product(range(len(books)), range(len(books))):
                self.assertEqual(books[one] == books[other], one == other)
        self.assertNotEqual(book_of(2, []), book_of(3, []))

    def test_orders_that_are_none_or_of_another_count(self):
        for wrong in ((), (0,), (0, 1), (0, 1, 3), (0, 0, 1), (-1, 0, 1), (0, 1, 2, 3), (0, 1, MUCH)):
            for orders in ([wrong], [(0, 1, 2), wrong], [wrong, (2, 1, 0)], [(0, 1, 2)] * 3 + [wrong]):
                with self.assertRaises(BadOrder):
                    book_of(3, orders)

    def test_counts_that_no_order_has(self):
        for many in NO_COUNTS:
            for orders in ([], [(0,)], [()], [tuple(range(9))]):
                with self.assertRaises(BadOrder):
                    book_of(many, orders)


class Looked(BookCase):
    def test_every_book_is_one(self):
        for many in (1, 2, 3):
            for book in every_book(many):
                self.assertIsNone(look_book(book))

    def test_single_things_broken(self):
        books = every_book(1) + every_book(2) + every_book(3)
        for book in books:
            self.held_against(books, broken_doors(book))
            self.held_against(books, broken_rooms(book))
            self.held_against(books + [(many, [], 0) for many in range(1, 9)], broken_ends(book))

    def test_single_things_broken_of_more_things(self):
        for book in (plain_book(4, all_orders(4)), plain_book(5, some_orders(5, 6, 5)),
                     plain_book(8, some_orders(8, 3, 8))):
            for other in list(broken_rooms(book)) + list(broken_ends(book)):
                if other != book:
                    self.refused(other)

    def test_rooms_elsewhere_in_the_list(self):
        books = every_book(3)
        for book in books:
            numbers = range(2, len(book[1]) + 2)
            for others in list(permutations(numbers))[:800]:
                self.held_against(books, [moved(book, {0: 0, 1: 1, **dict(zip(numbers, others))})])

    def test_a_turn_that_still_leads_ahead(self):
        # Each door leads ahead in the list, and yet the rooms stand in another turn.
        self.refused((3, [
            ((1, 1),), ((2, 1),), ((1, 3), (2, 2)), ((0, 1),), ((0, 3), (2, 5)), ((0, 2), (1, 5)),
            ((0, 4), (1, 6), (2, 7)),
        ], 8))
        self.refused((2, [((0, 1),), ((1, 1),), ((0, 3), (1, 2))], 4))

    def test_alike_rooms_that_can_be_come_to(self):
        self.refused((3, [((2, 1),), ((1, 2),), ((2, 1),), ((0, 4),), ((0, 3), (1, 5))], 6))
        alike = 0
        for orders in list(subsets(all_orders(3))) + [all_orders(4), some_orders(5, 12, 5)]:
            many = len(orders[0]) if orders else 3
            for rows in rows_of_rooms(orders):
                book = plain_book(many, orders, rows)
                if book != plain_book(many, orders):
                    alike += 1
                    self.refused(book)
        self.assertGreater(alike, 50)

    def test_all_small_candidates(self):
        for many, things in ((1, range(-1, 3)), (2, range(2))):
            books = every_book(many)
            doors = list(product(things, range(5)))
            single = [()] + [(door,) for door in doors]
            rooms = single + list(product(doors, doors))
            lists = [[]] + [[room] for room in rooms] + [list(pair) for pair in product(single, rooms)]
            for listed, first in product(lists, range(-1, 6)):
                book = (many, listed, first)
                if book in books:
                    self.assertIsNone(look_book(book))
                else:
                    with self.assertRaises(BadBook, msg=repr(book)):
                        look_book(book)

    def test_things_from_the_doors_on(self):
        # A thing twice on the way; unlike things behind two doors; too few; unlike lengths.
        self.refused((2, [((0, 1),), ((0, 2),)], 3))
        self.refused((3, [((1, 1),), ((2, 1),), ((0, 2), (1, 3))], 4))
        self.refused((2, [((0, 1),)], 2))
        self.refused((3, [((0, 1),), ((1, 2),)], 3))
        self.refused((2, [((0, 1),), ((0, 1), (1, 2))], 3))
        self.refused((2, [((0, 1), (1, 1))], 2))

    def test_no_rooms_and_a_first_number(self):
        for many in range(1, 9):
            self.assertIsNone(look_book((many, [], 0)))
            for first in (-1, 1, 2, 3, MUCH):
                self.refused((many, [], first))

    def test_rooms_that_lead_in_a_ring_or_very_deep(self):
        self.refused((1, [((0, 2),)], 2))
        self.refused((2, [((0, 3),), ((1, 2),)], 3))
        self.refused((8, [((k % 8, k + 1),) for k in range(5000)], 5001))

    def test_counts_that_no_order_has(self):
        for many in NO_COUNTS:
            self.refused((many, [], 0))
            self.refused((many, [((0, 1),)], 2))
        nine = [((k, k + 1),) for k in range(9)]
        self.refused((9, nine, 10))

    def test_forms_that_are_none(self):
        for book in ((), (1,), (1, []), (1, [], 0, 0), (1, [((0,),)], 2), (1, [((0, 1, 1),)], 2),
                     (1, [((),)], 2), (True, [((0, 1),)], 2), (1, [((False, 1),)], 2), (1, [((0, True),)], 2),
                     (1, [], False), (1, (), 0), (1, [[(0, 1)]], 2), (1, [([0, 1],)], 2)):
            self.refused(book)


class Told(BookCase):
    def test_orders_rising(self):
        for many, orders in some_sets():
            told = orders_in(plain_book(many, orders))
            self.assertEqual(told, sorted(orders))
            self.assertIs(type(told), list)

    def test_orders_of_the_largest_book(self):
        self.assertEqual(orders_in(book_of(8, all_orders(8))), all_orders(8))

    def test_has_of_each_order(self):
        for many, orders in some_sets():
            if many <= 5:
                book = plain_book(many, orders)
                for order in all_orders(many):
                    self.assertIs(has(book, order), order in orders)

    def test_has_of_more_things(self):
        for many in (6, 7, 8):
            drawn = some_orders(many, 60, many)
            book = plain_book(many, drawn[:30])
            for turn, order in enumerate(drawn):
                self.assertIs(has(book, order), turn < 30)

    def test_has_of_another_count_or_of_no_order(self):
        for orders in subsets(all_orders(3)):
            book = plain_book(3, orders)
            for wrong in ((), (0,), (0, 1), (0, 1, 2, 3), tuple(range(9)), (0, 0, 1), (1, 2, 3), (0, 1, 3),
                          (0, 1, -1), (0, 1, MUCH), (0, 1, -MUCH)):
                with self.assertRaises(BadOrder):
                    has(book, wrong)


class Kept(BookCase):
    def test_what_is_handed_in_is_as_it_was(self):
        for many, orders in some_sets():
            handed = list(reversed(orders)) + orders[:1]
            before = list(handed)
            book = book_of(many, handed)
            self.assertEqual(handed, before)
            kept = deepcopy(book)
            look_book(book)
            orders_in(book)
            has(book, tuple(range(many)))
            self.assertEqual(book, kept)

    def test_told_lists_may_be_changed(self):
        for many, orders in some_sets():
            handed = list(orders)
            book = book_of(many, handed)
            handed.clear()
            told = orders_in(book)
            self.assertEqual(told, sorted(orders))
            told.append("changed")
            told.reverse()
            self.assertEqual(orders_in(book), sorted(orders))
            book[1].append("changed")
            book[1].reverse()
            self.assertEqual(book_of(many, orders), plain_book(many, orders))

    def test_no_two_answers_are_one_list(self):
        for many in (1, 3):
            for orders in ([], all_orders(many)):
                book = book_of(many, orders)
                self.assertIsNot(book_of(many, orders)[1], book[1])
                self.assertIsNot(orders_in(book), orders_in(book))


if __name__ == "__main__":
    unittest.main()
