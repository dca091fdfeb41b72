"""Books turned, put behind one another, and made of some orders."""

from ordernest.books import END, LOWEST, book_of, has, look_book, orders_in, things_from
from ordernest.errors import BadOrder
from ordernest.joining import look_alike
from ordernest.marks import book_of_marks, fetched, marks_of, swaps_of, things_in
from ordernest.orders import look_count, turned_order

MOST_MADE_OF = 6


def turned(book):
    orders = orders_in(book)
    return book_of(book[0], [turned_order(order) for order in orders])


# An order that is none is refused by book_of, here and below.
def named(book, order):
    look_book(book)
    return put_behind(book, book_of(book[0], [order]))


def placed(book, order):
    look_book(book)
    return put_behind(book_of(book[0], [order]), book)


def behind(one, other):
    look_alike(one, other)
    return put_behind(one, other)


# Pairs of orders may be far too many to walk, rooms are not. To each room of the
# one book come the other's orders, as marks: they have at the first places what
# stood where the doors up to there tell, and behind it the rest in its turn.
# Which things are left is the same whichever way one came, so all that come to
# a room are kept as one.
def put_behind(one, other):
    many = one[0]
    things = things_from(many, one[1])
    swaps = swaps_of(many)
    came = [0] * len(things)
    came[one[2]] = marks_of(other)
    for number in range(len(things) - 1, END, -1):
        left = things_in(things[number])
        place = many - len(left)
        for door in one[1][number - LOWEST]:
            came[door[1]] |= fetched(came[number], swaps, place, place + left.index(door[0]))
    return book_of_marks(many, came[END])


def made_of(many, orders):
    look_count(many)
    if many > MOST_MADE_OF:
        raise BadOrder(f"books are made of orders of at most {MOST_MADE_OF} things")
    book = book_of(many, orders + [plain_order(many)])
    more = put_behind(book, book)
    # The plain order loses none of those that there are; so once no more come,
    # none can come any more.
    while more != book:
        book = more
        more = put_behind(book, book)
    return book


def plain_order(many):
    return tuple(range(many))


# An order that is put behind itself again and again comes to the plain one, and
# just ahead of that to itself turned. So the turned ones need no look of their own.
def is_group(book):
    look_book(book)
    return has(book, plain_order(book[0])) and put_behind(book, book) == book
