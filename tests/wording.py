"""What the document's words say of orders, books, rules, groups and weights, done the slow and plain way."""

from itertools import combinations, permutations
from random import Random

MUCH = 10 ** 15 - 1


def all_orders(many):
    return list(permutations(range(many)))


def some_orders(many, count, seed):
    return Random(seed).sample(all_orders(many), count)


def subsets(things):
    for bits in range(2 ** len(things)):
        yield [thing for k, thing in enumerate(things) if bits >> k & 1]


def some_sets():
    """Sets of orders of 1 to 8 things: all of them for the first counts, then some."""
    for many in (1, 2, 3):
        for orders in subsets(all_orders(many)):
            yield many, orders
    for many in range(4, 9):
        for seed, count in enumerate((0, 1, 2, 3, 10, 20)):
            yield many, sorted(some_orders(many, count, 10 * many + seed))
    yield 4, all_orders(4)
    yield 5, all_orders(5)
    yield 5, [order for order in all_orders(5) if order[1] != 3]
    yield 6, some_orders(6, 400, 6)
    yield 7, some_orders(7, 1500, 7)


def plain_book(many, orders, apart=None):
    """The book of 2.1 and 2.2; a room is told by the set of rows that go on from it.

    The room that has the rows apart is made anew for each door that leads to it: all is as it should be, but
    that some rooms are alike.
    """
    numbers = {frozenset([()]): 1}
    rooms = []

    def number_of(rows):
        if rows not in numbers or rows == apart:
            doors = []
            for thing in sorted({row[0] for row in rows}):
                doors.append((thing, number_of(rows_behind(rows, thing))))
            rooms.append(tuple(doors))
            numbers[rows] = len(rooms) + 1
        return numbers[rows]

    first = number_of(frozenset(orders)) if orders else 0
    return (many, rooms, first)


def rows_behind(rows, thing):
    return frozenset(row[1:] for row in rows if row[0] == thing)


def rows_of_rooms(orders):
    """For each room of the orders' book the rows that go on from it."""
    found = set()
    for order in orders:
        rows = frozenset(orders)
        for thing in order:
            found.add(rows)
            rows = rows_behind(rows, thing)
    return found


def every_book(many):
    """Each book that there is, of so few things that all sets of orders can be walked."""
    return [plain_book(many, orders) for orders in subsets(all_orders(many))]


def moved(book, numbers):
    """The same rooms elsewhere in the list: numbers tells the new number for each old one."""
    many, rooms, first = book
    placed = {}
    for k, room in enumerate(rooms):
        placed[numbers[k + 2]] = tuple((thing, numbers[to]) for thing, to in room)
    return (many, [placed[number] for number in sorted(placed)], numbers[first])


def no_books():
    """Some of each kind of what is no book."""
    alike = [((2, 1),), ((1, 2),), ((2, 1),), ((0, 4),), ((0, 3), (1, 5))]
    return [
        (0, [], 0), (9, [], 0), (-1, [], 0), (MUCH, [], 0), (3, [], 1), (3, [], 2), (3, [], -1), (3, [], MUCH),
        (3, [()], 2), (3, [()], 0), (3, [((0, 1),)], 0), (3, [((0, 1),)], 2), (1, [((1, 1),)], 2),
        (1, [((-1, 1),)], 2), (1, [((0, 0),)], 2), (1, [((0, 2),)], 2), (1, [((0, 1),)], 1), (1, [((0, 1),)], 3),
        (2, [((1, 1),), ((0, 1),), ((1, 3), (0, 2))], 4), (2, [((0, 1),), ((1, 1),), ((0, 3), (1, 2))], 4),
        (2, [((0, 1),), ((0, 2),)], 3), (2, [((0, 1), (1, 1))], 2), (3, alike, 6),
        (9, [((k, k + 1),) for k in range(9)], 10),
    ]


def keeps(order, rule):
    """Whether an order keeps a rule, as 5.1 says it of the single order."""
    word, parts = rule[0], rule[1:]
    if word == "at":
        return order[parts[0]] == parts[1]
    if word == "ahead":
        return order.index(parts[0]) < order.index(parts[1])
    if word == "next":
        return order.index(parts[0]) + 1 == order.index(parts[1])
    if word == "even":
        return len([1 for ahead, behind in combinations(order, 2) if ahead > behind]) % 2 == 0
    if word == "not":
        return not keeps(order, parts[0])
    if word == "both":
        return keeps(order, parts[0]) and keeps(order, parts[1])
    if word == "either":
        return keeps(order, parts[0]) or keeps(order, parts[1])
    raise ValueError(word)


def plain_rules(many):
    """Each rule for so many things that has no rule within."""
    things = range(many)
    pairs = list(permutations(things, 2))
    return ([("even",)] + [("at", place, thing) for place in things for thing in things]
            + [("ahead", one, other) for one, other in pairs] + [("next", one, other) for one, other in pairs])


def drawn_rule(many, depth, chance):
    """A rule in which just so many stand within one another, the innermost one counted."""
    if depth == 1:
        return chance.choice(plain_rules(many))
    word = chance.choice(["not", "both", "either"])
    if word == "not":
        return (word, drawn_rule(many, depth - 1, chance))
    parts = [drawn_rule(many, depth - 1, chance), drawn_rule(many, chance.randrange(1, depth), chance)]
    chance.shuffle(parts)
    return (word, parts[0], parts[1])


def turned_plainly(order):
    """For each thing its place, as 1.2 says it."""
    return tuple(order.index(thing) for thing in range(len(order)))


def with_behind(one, other):
    """The one with the other behind it, as 1.2 says it: at each place what the other has where the one tells."""
    return tuple(other[one[place]] for place in range(len(one)))


def plain_group(many, orders):
    """All orders that come of these and of the plain one: these are put behind all that came, till no more come."""
    made = {tuple(range(many))} | set(orders)
    fresh = set(made)
    while fresh:
        came = {with_behind(one, other) for one in fresh for other in orders}
        fresh = came - made
        made |= fresh
    return made


def is_plain_group(many, orders):
    """6.2 to the letter."""
    orders = set(orders)
    return (tuple(range(many)) in orders and all(turned_plainly(order) in orders for order in orders)
            and all(with_behind(one, other) in orders for one in orders for other in orders))


def weight(order, weights):
    return sum(weights[place][thing] for place, thing in enumerate(order))


def drawn_weights(many, most, seed):
    chance = Random(seed)
    return [[chance.randint(-most, most) for thing in range(many)] for place in range(many)]
