"""What the document's words say of orders and books, done the slow and plain way."""

from itertools import permutations
from random import Random

MUCH = 10 ** 15 - 1


def all_orders(many):
    return list(permutations(range(many)))


def some_orders(many, count, seed):
    return Random(seed).sample(all_orders(many), count)


def subsets(things):
    for bits in range(2 ** len(things)):
        yield [thing for k, thing in enumerate(things) if bits >> k & 1]


def plain_book(many, orders, apart=None):
    """The book of 2.1 and 2.2; a room is told by the set of rows that go on from it.

    The room that has the rows apart is made anew for each door that leads to it: all is as it should be, but
    that some rooms are alike.
    """
    numbers = {frozenset([()]): 1}
    rooms = []

    def number_of(rows):
        if rows not in numbers or rows == apart:
            doors = []
            for thing in sorted({row[0] for row in rows}):
                doors.append((thing, number_of(rows_behind(rows, thing))))
            rooms.append(tuple(doors))
            numbers[rows] = len(rooms) + 1
        return numbers[rows]

    first = number_of(frozenset(orders)) if orders else 0
    return (many, rooms, first)


def rows_behind(rows, thing):
    return frozenset(row[1:] for row in rows if row[0] == thing)


def rows_of_rooms(orders):
    """For each room of the orders' book the rows that go on from it."""
    found = set()
    for order in orders:
        rows = frozenset(orders)
        for thing in order:
            found.add(rows)
            rows = rows_behind(rows, thing)
    return found


def every_book(many):
    """Each book that there is, of so few things that all sets of orders can be walked."""
    return [plain_book(many, orders) for orders in subsets(all_orders(many))]


def moved(book, numbers):
    """The same rooms elsewhere in the list: numbers tells the new number for each old one."""
    many, rooms, first = book
    placed = {}
    for k, room in enumerate(rooms):
        placed[numbers[k + 2]] = tuple((thing, numbers[to]) for thing, to in room)
    return (many, [placed[number] for number in sorted(placed)], numbers[first])
