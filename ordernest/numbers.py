"""The orders of a book told by numbers, from 0 on, as they rise."""

from ordernest.books import END, LOWEST, NO_ROOM, behind_door, look_book
from ordernest.errors import BadNumber
from ordernest.orders import is_whole, look_order


def how_many(book):
    look_book(book)
    return rows_from(book[1])[book[2]]


# For each number of a room, NO_ROOM and END among them, how many rows of things
# go on from it. Doors lead ahead in the list alone, so those behind are known.
def rows_from(rooms):
    counts = [0, 1]
    for room in rooms:
        counts.append(sum([counts[door[1]] for door in room]))
    return counts


def order_at(book, number):
    look_book(book)
    counts = rows_from(book[1])
    if not is_whole(number) or not 0 <= number < counts[book[2]]:
        raise BadNumber("the book has no order at this number")
    things = []
    skipped = number
    came = book[2]
    while came != END:
        room = book[1][came - LOWEST]
        door = door_behind(room, counts, skipped)
        skipped -= rows_less(room, counts, door[0])
        things.append(door[0])
        came = door[1]
    return tuple(things)


# The door of the row that stands behind so many others of the room.
def door_behind(room, counts, skipped):
    return [door for door in room if rows_less(room, counts, door[0]) <= skipped][-1]


# How many rows of the room begin with a lesser thing.
def rows_less(room, counts, thing):
    return sum([counts[door[1]] for door in room if door[0] < thing])


def number_of(book, order):
    look_book(book)
    look_order(book[0], order)
    counts = rows_from(book[1])
    less = 0
    came = book[2]
    for thing in order:
        if came == NO_ROOM:
            return (less, False)
        room = book[1][came - LOWEST]
        less += rows_less(room, counts, thing)
        came = behind_door(room, thing)
    return (less, came == END)
