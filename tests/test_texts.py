import re
import unittest
from copy import deepcopy
from random import Random

from ordernest.books import book_of, look_book, orders_in
from ordernest.errors import BadBook, BadText
from ordernest.texts import read, written
from tests.wording import MUCH, all_orders, every_book, moved, no_books, plain_book, some_orders, some_sets

NUMBER = "(?:0|[1-9][0-9]*)"
DOOR = f"{NUMBER}:{NUMBER}"
FORM = re.compile(f"{NUMBER} {NUMBER}(?:\n{DOOR}(?: {DOOR})*)*")
SIGNS = [chr(number) for number in range(32, 127) if number != 37] + ["\n"]
ONE = "2 3\n1:1\n0:2"
BOTH = "2 4\n1:1\n0:1\n0:2 1:3"
THREE = "3 8\n2:1\n1:1\n1:2 2:3\n0:1\n0:2 2:5\n0:3 1:5\n0:4 1:6 2:7"


def is_written(text):
    """Whether a text is in the form of 8.1 and what it tells is a book, without the program's own reading."""
    if not FORM.fullmatch(text) or max(map(len, re.findall("[0-9]+", text))) > 6:
        return False
    rows = text.split("\n")
    many, first = map(int, rows[0].split(" "))
    rooms = [tuple(tuple(map(int, door.split(":"))) for door in row.split(" ")) for row in rows[1:]]
    return is_plainly_book((many, rooms, first))


def is_plainly_book(book):
    many, rooms, first = book
    if not 1 <= many <= 8 or not 0 <= first <= len(rooms) + 1:
        return False
    for number, room in enumerate(rooms, start=2):
        if not all(1 <= to < number for thing, to in room):
            return False
    orders = set(walked(rooms, first, many))
    if any(sorted(order) != list(range(many)) for order in orders):
        return False
    return book == plain_book(many, orders)


def walked(rooms, number, most):
    """The rows of things to the end; one thing more than there are tells that it is no book, too."""
    if number == 1 or (number > 1 and most < 0):
        return [()]
    if number == 0:
        return []
    return [(thing,) + row for thing, to in rooms[number - 2] for row in walked(rooms, to, most - 1)]


def tell(book):
    """The text of a book or of what is none, with the numbers as they are."""
    return "\n".join([f"{book[0]} {book[2]}"] + [" ".join(f"{door[0]}:{door[1]}" for door in room) for room in book[1]])


class TextCase(unittest.TestCase):
    def refused(self, text):
        with self.assertRaises(BadText, msg=repr(text[:200])) as caught:
            read(text)
        self.assertIs(type(caught.exception), BadText)

    def held(self, text):
        if is_written(text):
            self.assertEqual(written(read(text)), text)
        else:
            self.refused(text)


class Written(TextCase):
    def test_by_hand(self):
        for many in range(1, 9):
            self.assertEqual(written((many, [], 0)), f"{many} 0")
        self.assertEqual(written(book_of(1, [(0,)])), "1 2\n0:1")
        self.assertEqual(written(book_of(2, [(0, 1)])), ONE)
        self.assertEqual(written(book_of(2, all_orders(2))), BOTH)
        self.assertEqual(written(book_of(3, all_orders(3))), THREE)
        self.assertEqual(written(book_of(3, [(0, 1, 2), (1, 0, 2)])), "3 5\n2:1\n1:2\n0:2\n0:3 1:4")

    def test_row_by_row(self):
        for many, orders in some_sets():
            book = plain_book(many, orders)
            told = written(book)
            self.assertIs(type(told), str)
            self.assertEqual(told, tell(book))
            rows = told.split("\n")
            self.assertEqual(rows[0], str(many) + " " + str(book[2]))
            self.assertEqual(len(rows), 1 + len(book[1]))
            for row, room in zip(rows[1:], book[1]):
                self.assertEqual([tuple(map(int, door.split(":"))) for door in row.split(" ")], list(room))

    def test_unlike_books_are_written_unlike(self):
        books = every_book(1) + every_book(2) + every_book(3)
        self.assertEqual(len({written(book) for book in books}), len(books))

    def test_no_books(self):
        for wrong in no_books() + [(), (3,), (3, [])]:
            before = deepcopy(wrong)
            with self.assertRaises(BadBook):
                written(wrong)
            self.assertEqual(wrong, before)

    def test_the_book_is_as_it_was(self):
        for many, orders in some_sets():
            book = plain_book(many, orders)
            written(book)
            self.assertEqual(book, plain_book(many, orders))


class Read(TextCase):
    def assert_read(self, book):
        told = read(tell(book))
        self.assertEqual(told, book)
        self.assertEqual((type(told), type(told[1])), (tuple, list))
        self.assertTrue(all(type(room) is tuple and type(door) is tuple for room in told[1] for door in room))
        self.assertTrue(all(type(number) is int for room in told[1] for door in room for number in door))
        self.assertEqual((type(told[0]), type(told[2])), (int, int))
        self.assertIsNone(look_book(told))

    def test_every_book_of_1_to_3_things(self):
        for many in (1, 2, 3):
            for book in every_book(many):
                self.assert_read(book)

    def test_books_of_1_to_8_things(self):
        for many, orders in some_sets():
            self.assert_read(plain_book(many, orders))
        for many in range(1, 9):
            self.assert_read((many, [], 0))
            self.assert_read(plain_book(many, all_orders(many)))

    def test_many_rooms(self):
        book = plain_book(8, some_orders(8, 6000, 8))
        self.assertGreater(len(book[1]), 1000)
        self.assert_read(book)
        self.assertEqual(read(written(book)), book)

    def test_each_time_a_new_list(self):
        for text in ("3 0", ONE, BOTH, THREE):
            one, other = read(text), read(text)
            self.assertIsNot(one[1], other[1])
            one[1].append("changed")
            self.assertEqual(read(text), other)


class ReadRefused(TextCase):
    def test_blanks_and_line_ends(self):
        for text in ("", " ", "\n", "\n\n", " \n", "0", "3", "3 ", " 3", "3  0", " 3 0", "3 0 ", "3 0\n", "\n3 0",
                     "3\n0",
                     "30", "3 0 0", "3:0", "3 0\n\n", "2 3\n\n1:1\n0:2", "2 3\n1:1\n\n0:2", "2 3\n1:1\n0:2\n",
                     "\n2 3\n1:1\n0:2", "2 3\n1:1\n0:2 ", "2 3\n1:1\n 0:2", "2 3 \n1:1\n0:2", "2 3\n1:1 \n0:2",
                     "2 3\n1: 1\n0:2", "2 3\n1 :1\n0:2", "2 3\n1 1\n0:2", "2 3\n1:1 0:2", "2 3 1:1\n0:2",
                     "2 3\n1:1\n0:\n2",
                     "2 3\n1::1\n0:2", "2 3\n:1\n0:2", "2 3\n1:\n0:2", "2 3\n1\n0:2", "2 3\n:\n0:2", "2 3\n1:1:1\n0:2",
                     "2 4\n1:1\n0:1\n0:2  1:3", "2 4\n1:1\n0:1\n0:21:3", "2 4\n1:1\n0:1\n0:2\n1:3",
                     "2 4\n1:10:1\n0:2 1:3",
                     "2 4\n1:1\n0:1\n0:2,1:3", "2 4\n1:1\n0:1\n0:2 1:3 ", "2 4\r\n1:1\n0:1\n0:2 1:3", "2\t0"):
            self.refused(text)

    def test_noughts_and_signs_ahead_of_a_number_and_within(self):
        for text in ("3 0", ONE, BOTH, "1 2\n0:1"):
            for found in list(re.finditer("[0-9]", text)):
                for ahead in ("0", "00", "+", "-", "_", "--", "0x", "0b", "0o", ".", "(", "'", '"', "~"):
                    self.refused(text[:found.start()] + ahead + text[found.start():])
                for later in ("_", "_0", ".", ".0", "e0", "+", "-", "L", ")", "'", "/1", "*1"):
                    self.refused(text[:found.end()] + later + text[found.end():])
        wide = written(plain_book(5, all_orders(5)))
        self.assertIn("5 32\n", wide)
        for number in ("3_2", "+32", "-32", "032", "3 2", "32.", "3,2", "3.2", "32e0", "0x20", "3+2", "3-2"):
            self.refused(wide.replace("5 32\n", f"5 {number}\n"))
            self.refused(wide.replace(" 4:31", " 4:" + number))

    def test_negative_numbers(self):
        for text in ("-1 0", "3 -1", "3 -0", "-0 0", "1 2\n-0:1", "1 2\n0:-1", "1 2\n0:+1", "+1 0", "1 +0"):
            self.refused(text)

    def test_figures_of_other_scripts(self):
        for figure in ("\u0663", "\u00b2", "\uff13"):
            self.refused(figure + " 0")
            self.refused("3 0".replace("0", figure))

    def test_each_sign_put_in(self):
        for text in ("1 0", "1 2\n0:1", ONE, BOTH):
            for place in range(len(text) + 1):
                for sign in SIGNS:
                    self.held(text[:place] + sign + text[place:])

    def test_each_sign_changed_or_left_out(self):
        for text in ("1 0", "1 2\n0:1", ONE, BOTH, THREE):
            for place in range(len(text)):
                for sign in SIGNS + [""]:
                    self.held(text[:place] + sign + text[place + 1:])

    def test_two_signs_exchanged(self):
        for text in ("1 2\n0:1", ONE, BOTH, THREE):
            for place in range(len(text) - 1):
                self.held(text[:place] + text[place + 1] + text[place] + text[place + 2:])

    def test_drawn_texts(self):
        chance = Random(81)
        for text in ("1 2\n0:1", ONE, BOTH, THREE):
            for turn in range(2000):
                signs = list(text)
                for change in range(chance.randint(1, 4)):
                    place = chance.randrange(len(signs))
                    signs[place:place + chance.randint(0, 2)] = chance.choices("01234 :\n", k=chance.randint(0, 2))
                    signs = signs or ["0"]
                self.held("".join(signs))

    def test_rows_told_twice_left_out_or_out_of_their_turn(self):
        for book in every_book(2) + every_book(3):
            rows = tell(book).split("\n")
            for place in range(len(rows)):
                self.held("\n".join(rows[:place] + rows[place + 1:]))
                self.refused("\n".join(rows[:place + 1] + rows[place:]))
                self.refused("\n".join(rows + rows[place:place + 1]))
                for other in range(place):
                    others = list(rows)
                    others[place], others[other] = rows[other], rows[place]
                    if others != rows:
                        self.held("\n".join(others))
        self.refused("2 4\n0:1\n1:1\n0:2 1:3")
        self.refused("2 4\n0:1\n1:1\n0:3 1:2")
        self.refused("3 6\n2:1\n1:2\n2:1\n0:4\n0:3 1:5")

    def test_rooms_in_another_turn_with_their_numbers_moved(self):
        for book in every_book(3)[1::3]:
            numbers = {number: number for number in range(len(book[1]) + 2)}
            for number in range(2, len(book[1]) + 1):
                self.held(tell(moved(book, {**numbers, number: number + 1, number + 1: number})))

    def test_rightly_written_but_no_book(self):
        for wrong in no_books():
            self.refused(tell(wrong))
        for text in ("0 0", "9 0", "10 0", "3 1", "3 2", "1 1", "1 3\n0:1", "1 0\n0:1", "2 2\n0:1 1:1", "2 3\n0:1\n0:2",
                     "2 4\n1:1\n0:1\n1:3 0:2", "2 4\n1:1\n0:1\n0:2 0:2", "1 2\n0:0", "1 2\n0:2", "1 2\n1:1",
                     "1 2\n0:1 0:1"):
            self.refused(text)

    def test_very_long_numbers(self):
        for figures in (15, 16, 20, 100, 640, 4299, 4300, 4301, 5000, 100000):
            for number in ("9" * figures, "1" + "0" * (figures - 1), "0" * figures, "-" + "1" * figures):
                for text in (f"{number} 0", f"3 {number}", f"1 2\n{number}:1", f"1 2\n0:{number}", number,
                             f"2 4\n1:1\n0:1\n0:2 1:{number}", f"2 4\n1:1\n0:1\n0:2 {number}:3"):
                    self.refused(text)

    def test_very_many_rows(self):
        self.refused("8 5001\n" + "\n".join(f"{k % 8}:{k + 1}" for k in range(5000)))
        self.refused("1 2" + "\n0:1" * 5000)
        self.refused("\n" * 5000)
        self.refused("1 0" + " 0:1" * 5000)

    def test_other_words(self):
        for text in ("book", "none", "None", "3 none", "(3, [], 0)", "[]", "True False", "three nought", "~",
                     "3 0 # none"):
            self.refused(text)


class ThereAndBack(TextCase):
    def test_read_and_written(self):
        for book in every_book(3):
            text = written(book)
            self.assertEqual(read(text), book)
            self.assertEqual(orders_in(read(text)), orders_in(book))
            self.assertEqual(written(read(text)), text)

    def test_a_book_with_a_number_of_15_figures_is_none(self):
        self.refused(f"{MUCH} 0")
        self.refused(f"3 {MUCH}")


if __name__ == "__main__":
    unittest.main()
