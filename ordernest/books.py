"""Books: sets of orders, told by rooms whose doors lead from thing to thing."""

from ordernest.errors import BadBook
from ordernest.orders import is_count, is_whole, look_count, look_order

NO_ROOM = 0
END = 1
# The number of the room at the list's place 0.
LOWEST = 2


# The rooms of one book while it is made. Like rooms are one, so a room that
# stands here already keeps its number. Rooms that are kept in the turn of 2.2
# therefore stand in it too.
class Shelf:
    def __init__(self):
        self.rooms = []
        self.numbers = {}

    def keep(self, room):
        if room not in self.numbers:
            self.numbers[room] = len(self.rooms) + LOWEST
            self.rooms.append(room)
        return self.numbers[room]


def look_book(book):
    look_parts(book)
    many = book[0]
    rooms = book[1]
    first = book[2]
    things = things_from(many, rooms)
    look_first(many, things, first)
    look_turn(rooms, first)


def look_parts(book):
    if not isinstance(book, tuple) or len(book) != 3:
        raise BadBook("a book is a triple")
    if not is_count(book[0]):
        raise BadBook("the count of things is none that orders can have")
    if not isinstance(book[1], list):
        raise BadBook("the rooms are no list")
    if not is_whole(book[2]):
        raise BadBook("the first number is no whole number")


# For each number of a room, NO_ROOM and END among them, the things that come
# from it on, a bit for each. Doors lead ahead in the list alone, so what comes
# behind a door is known by the time that the door is looked at.
def things_from(many, rooms):
    things = [0, 0]
    for room in rooms:
        look_doors(many, room, len(things))
        things.append(things_of_room(room, things))
    return things


def look_doors(many, room, number):
    if not isinstance(room, tuple) or len(room) == 0:
        raise BadBook(f"room {number} has no doors")
    last = -1
    for door in room:
        if not is_door(door):
            raise BadBook(f"room {number} has a door that is no pair of numbers")
        if not last < door[0] < many:
            raise BadBook(f"the things of room {number} don't rise, or there is no such thing")
        if not END <= door[1] < number:
            raise BadBook(f"room {number} has a door that leads neither to the end nor ahead")
        last = door[0]


def is_door(door):
    return isinstance(door, tuple) and len(door) == 2 and is_whole(door[0]) and is_whole(door[1])


def things_of_room(room, things):
    found = [things_through(door, things) for door in room]
    if found != [found[0]] * len(found):
        raise BadBook("unlike things come from the doors of one room on")
    return found[0]


def things_through(door, things):
    thing = 1 << door[0]
    later = things[door[1]]
    if thing & later:
        raise BadBook("a thing comes again behind its own door")
    return thing | later


def look_first(many, things, first):
    if first == NO_ROOM:
        return
    if not END < first < len(things):
        raise BadBook("there is no first room")
    if things[first] != (1 << many) - 1:
        raise BadBook("not all things come from the first room on")


# Rooms that can't be come to are not walked, so they are missed here too.
def look_turn(rooms, first):
    if len(set(rooms)) != len(rooms):
        raise BadBook("two rooms are alike")
    walked = {NO_ROOM: True, END: True}
    walk_rooms(rooms, first, walked)
    if list(walked) != list(range(LOWEST + len(rooms))):
        raise BadBook("the rooms don't stand as one comes to them")


# As no thing comes twice, this calls itself no deeper than there are things.
def walk_rooms(rooms, number, walked):
    if number in walked:
        return
    for door in rooms[number - LOWEST]:
        walk_rooms(rooms, door[1], walked)
    walked[number] = True


def book_of(many, orders):
    look_count(many)
    for order in orders:
        look_order(many, order)
    if len(orders) == 0:
        return (many, [], NO_ROOM)
    shelf = Shelf()
    first = shelve(shelf, sorted(orders), 0)
    return (many, shelf.rooms, first)


# The orders stand rising and are alike ahead of the place; told is the number
# of the room from which they go on.
def shelve(shelf, orders, place):
    if place == len(orders[0]):
        return END
    parted = {}
    for order in orders:
        parted.setdefault(order[place], []).append(order)
    doors = [(thing, shelve(shelf, parted[thing], place + 1)) for thing in parted]
    return shelf.keep(tuple(doors))


# The book of the orders that lead from a state to the end. doors_from tells for
# a state the pairs of each thing that may come next, rising, and the state
# behind it; END and NO_ROOM are states too, all others are tuples. States from
# which like things go on may stand apart: the shelf makes one room of them.
def grown(many, state, doors_from):
    shelf = Shelf()
    first = grow(shelf, state, doors_from, {NO_ROOM: NO_ROOM, END: END})
    return (many, shelf.rooms, first)


# Doors behind which the end can't be come to are left out, so each room that
# is kept stands behind a door of a room that is kept, or is the first one.
def grow(shelf, state, doors_from, known):
    if state not in known:
        doors = []
        for thing, later in doors_from(state):
            number = grow(shelf, later, doors_from, known)
            if number != NO_ROOM:
                doors.append((thing, number))
        known[state] = shelf.keep(tuple(doors)) if len(doors) > 0 else NO_ROOM
    return known[state]


# Rows are made once for each room, as the rooms behind its doors stand ahead.
def orders_in(book):
    look_book(book)
    rows = [[], [()]]
    for room in book[1]:
        rows.append(rows_of_room(room, rows))
    return rows[book[2]]


def rows_of_room(room, rows):
    found = []
    for door in room:
        found.extend([(door[0],) + row for row in rows[door[1]]])
    return found


def has(book, order):
    look_book(book)
    look_order(book[0], order)
    number = book[2]
    for thing in order:
        if number == NO_ROOM:
            return False
        number = behind_door(book[1][number - LOWEST], thing)
    return number == END


def behind_door(room, thing):
    for door in room:
        if door[0] == thing:
            return door[1]
    return NO_ROOM
