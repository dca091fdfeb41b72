"""Books joined by a word, and the least order that parts two of them."""

from ordernest.books import END, LOWEST, NO_ROOM, grown, look_book
from ordernest.errors import BadRule, Unlike

# For each word the pairs of numbers, the first book's and the second's, with
# which an order of the answer closes: 1 where the book has it, 0 where not.
CLOSES = {
    "or": ((1, 0), (0, 1), (1, 1)),
    "and": ((1, 1),),
    "less": ((1, 0),),
    "odd": ((1, 0), (0, 1)),
}


def joined(word, one, other):
    if not isinstance(word, str) or word not in CLOSES:
        raise BadRule("books are joined by or, and, less, odd alone")
    look_alike(one, other)
    return join_books(word, one, other)


def look_alike(one, other):
    look_book(one)
    look_book(other)
    if one[0] != other[0]:
        raise Unlike("the books are not of as many things")


# For books and words that have been looked at.
def join_books(word, one, other):
    closes = CLOSES[word]
    first = meet(closes, one[2], other[2])
    return grown(one[0], first, lambda pair: doors_of_pair(closes, one[1], other[1], pair))


# What the answer has from here on, where the two books have come to these
# rooms. Both come to the end at once, or not at all; so where one of them is
# there, or has no room, it is known with which numbers both can still close.
def meet(closes, one, other):
    settled = one <= END or other <= END
    if settled and (min(one, END), min(other, END)) not in closes:
        return NO_ROOM
    if one <= END and other <= END:
        return END
    return (one, other)


def doors_of_pair(closes, rooms, others, pair):
    mine = doors_by_thing(rooms, pair[0])
    theirs = doors_by_thing(others, pair[1])
    found = []
    for thing in sorted(set(mine) | set(theirs)):
        found.append((thing, meet(closes, mine.get(thing, NO_ROOM), theirs.get(thing, NO_ROOM))))
    return found


def doors_by_thing(rooms, number):
    if number == NO_ROOM:
        return {}
    return dict(rooms[number - LOWEST])


def parting(one, other):
    look_alike(one, other)
    odd = join_books("odd", one, other)
    if odd[2] == NO_ROOM:
        return None
    return least_order(odd)


# Doors rise, so the least order goes through the first one of each room.
def least_order(book):
    things = []
    number = book[2]
    while number != END:
        door = book[1][number - LOWEST][0]
        things.append(door[0])
        number = door[1]
    return tuple(things)
