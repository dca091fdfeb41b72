"""Orders: tuples of all the numbers of 1 to 8 things."""

from ordernest.errors import BadOrder

MOST_THINGS = 8


# Python counts True and False among the ints; here they are no numbers.
def is_whole(value):
    return isinstance(value, int) and not isinstance(value, bool)


def is_count(many):
    return is_whole(many) and 1 <= many <= MOST_THINGS


# For callers that may have no order at hand by which the count would be looked at.
def look_count(many):
    if not is_count(many):
        raise BadOrder(f"{many!r} is no count of things from 1 to {MOST_THINGS}")


def look_order(many, order):
    look_count(many)
    if not isinstance(order, tuple) or len(order) != many:
        raise BadOrder(f"{order!r} is no tuple of {many} things")
    if not all([is_whole(thing) for thing in order]):
        raise BadOrder(f"{order!r} has other things than whole numbers")
    if sorted(order) != list(range(many)):
        raise BadOrder(f"{order!r} has not each number below {many} once")


def turned_order(order):
    look_order(len(order), order)
    places = [0] * len(order)
    for place, thing in enumerate(order):
        places[thing] = place
    return tuple(places)


def behind_order(one, other):
    look_order(len(one), one)
    look_order(len(one), other)
    return tuple([other[place] for place in one])


def crossings(order):
    look_order(len(order), order)
    crossed = 0
    for place, thing in enumerate(order):
        crossed += len([later for later in order[place + 1:] if later < thing])
    return crossed
