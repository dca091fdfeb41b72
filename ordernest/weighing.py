"""The weights of orders: a book's lightest one, and those within a bound."""

from ordernest.books import END, LOWEST, NO_ROOM, grown, look_book
from ordernest.errors import BadWeights
from ordernest.orders import is_whole

MOST_WEIGHT = 1000


def look_weights(many, weights):
    if not isinstance(weights, list) or len(weights) != many:
        raise BadWeights(f"the weights are no list of {many} rows")
    for row in weights:
        if not isinstance(row, list) or len(row) != many:
            raise BadWeights(f"a row of weights is no list of {many} numbers")
        if not all([is_weight(weight) for weight in row]):
            raise BadWeights(f"a weight is no whole number from -{MOST_WEIGHT} to {MOST_WEIGHT}")


def is_weight(weight):
    return is_whole(weight) and abs(weight) <= MOST_WEIGHT


def lightest(book, weights):
    look_book(book)
    look_weights(book[0], weights)
    return lightest_from(book[1], weights)[book[2]]


# For each number of a room, NO_ROOM and END among them, the pair of the least
# weight of the rows that go on from it and the least row that has it. Doors lead
# ahead in the list alone, so those behind are known.
def lightest_from(rooms, weights):
    found = [None, (0, ())]
    for room in rooms:
        found.append(min([put_ahead(door[0], found[door[1]], weights) for door in room]))
    return found


# From any room on all rows are equally long, so the length tells the thing's place.
def put_ahead(thing, pair, weights):
    place = len(weights) - len(pair[1]) - 1
    return (weights[place][thing] + pair[0], (thing,) + pair[1])


def within(book, weights, bound):
    look_book(book)
    look_weights(book[0], weights)
    first = state_within(0, book[2], bound)
    return grown(book[0], first, lambda state: doors_within(book[1], weights, state))


# A state is the place, the number of the room, and what the things from there on
# may weigh at most.
def state_within(place, number, left):
    if number == END:
        return END if left >= 0 else NO_ROOM
    return NO_ROOM if number == NO_ROOM else (place, number, left)


def doors_within(rooms, weights, state):
    place = state[0]
    found = []
    for thing, number in rooms[state[1] - LOWEST]:
        found.append((thing, state_within(place + 1, number, state[2] - weights[place][thing])))
    return found
