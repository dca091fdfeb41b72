"""Sets of orders as marks: one whole number, with a bit for each order that there is.

An order's bit has the number that the order has among all orders of its things,
rising. So the bits of the orders that begin alike stand side by side, and many
orders are turned about at once by a few shifts.
"""

from ordernest.books import END, NO_ROOM, grown, things_from
from ordernest.orders import MOST_THINGS


# In how many rows so many things can stand.
def ways(many):
    found = 1
    for count in range(2, many + 1):
        found *= count
    return found


def all_marks(many):
    return (1 << ways(many)) - 1


# The things, rising, that are told by a bit for each.
def things_in(bits):
    return [thing for thing in range(MOST_THINGS) if (bits >> thing) & 1 == 1]


# For a book that has been looked at. A room's marks are those of its rows of
# things among all rows of the same things.
def marks_of(book):
    things = things_from(book[0], book[1])
    marks = [0, 1]
    for room in book[1]:
        marks.append(marks_of_room(room, things_in(things[len(marks)]), marks))
    return marks[book[2]]


def marks_of_room(room, things, marks):
    rows = ways(len(things) - 1)
    return sum([marks[door[1]] << (things.index(door[0]) * rows) for door in room])


def book_of_marks(many, marks):
    return grown(many, state_of_marks(tuple(range(many)), marks), doors_of_marks)


def state_of_marks(things, marks):
    if marks == 0:
        return NO_ROOM
    if len(things) == 0:
        return END
    return (things, marks)


def doors_of_marks(state):
    things = state[0]
    rows = ways(len(things) - 1)
    found = []
    for rank, thing in enumerate(things):
        marks = (state[1] >> (rank * rows)) & ((1 << rows) - 1)
        found.append((thing, state_of_marks(things[:rank] + things[rank + 1:], marks)))
    return found


# For each place but the last, how the marks change where each order has the
# things at this place and the next one exchanged.
def swaps_of(many):
    return [swaps_at(many, many - place) for place in range(many - 1)]


# With so many things left from the place on, let the thing that stands there
# have the rank i among them, and the next one the rank i + gap among the rest,
# so that it is greater. Once they are exchanged the ranks are i + gap + 1 and i:
# the bit moves up by a shift that hangs on the gap alone, and back by the same.
def swaps_at(many, left):
    found = []
    for gap in range(left - 1):
        shift = (gap + 1) * ways(left - 1) - gap * ways(left - 2)
        found.append((shift, rising_marks(many, left, gap)))
    return found


# The marks of all orders in which the two things stand rising, with this gap.
def rising_marks(many, left, gap):
    alike = all_marks(left - 2)
    found = 0
    for rank in range(left - 1 - gap):
        found |= alike << (rank * ways(left - 1) + (rank + gap) * ways(left - 2))
    # Whatever stands ahead of the place, the same bits come again and again.
    return found * (all_marks(many) // all_marks(left))


def swapped(marks, swaps):
    found = 0
    for shift, rising in swaps:
        found |= ((marks & rising) << shift) | ((marks >> shift) & rising)
    return found


# Each order with the thing at the later place taken out and put in at the place.
def fetched(marks, swaps, place, later):
    found = marks
    for earlier in range(later - 1, place - 1, -1):
        found = swapped(found, swaps[earlier])
    return found
