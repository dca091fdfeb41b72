"""Rules that orders keep or break, and the books of those that keep one."""

from ordernest.books import END, NO_ROOM, grown, look_book
from ordernest.errors import BadRule
from ordernest.joining import join_books
from ordernest.orders import is_whole, look_count

MOST_WITHIN = 6
# How many parts stand behind the word: numbers, or rules.
NUMBERS_BEHIND = {"at": 2, "ahead": 2, "next": 2, "even": 0}
RULES_BEHIND = {"not": 1, "both": 2, "either": 2}
JOINS = {"both": "and", "either": "or"}
# Kept by every order; its word is none that can be handed in.
FREE = ("free",)
# Stands in the place of a mark, which is 0 or 1.
BROKEN = 2


def ruled(many, rule):
    look_count(many)
    look_rule(many, rule, 1)
    return book_by_rule(many, rule)


def cut(book, rule):
    look_book(book)
    look_rule(book[0], rule, 1)
    return join_books("and", book, book_by_rule(book[0], rule))


# The depth is looked at first, so this never calls itself much deeper.
def look_rule(many, rule, depth):
    if depth > MOST_WITHIN:
        raise BadRule(f"more than {MOST_WITHIN} rules stand within one another")
    if not isinstance(rule, tuple) or len(rule) == 0 or not isinstance(rule[0], str):
        raise BadRule("a rule is a tuple that begins with a word")
    if rule[0] in NUMBERS_BEHIND:
        look_parts_behind(rule, NUMBERS_BEHIND[rule[0]])
        look_numbers(many, rule)
    elif rule[0] in RULES_BEHIND:
        look_parts_behind(rule, RULES_BEHIND[rule[0]])
        for part in rule[1:]:
            look_rule(many, part, depth + 1)
    else:
        raise BadRule("no rule begins with this word")


def look_parts_behind(rule, count):
    if len(rule) != count + 1:
        raise BadRule("a rule has too few or too many parts")


def look_numbers(many, rule):
    for number in rule[1:]:
        if not is_whole(number) or not 0 <= number < many:
            raise BadRule("a rule speaks of a thing or a place that there is not")
    if rule[0] in ("ahead", "next") and rule[1] == rule[2]:
        raise BadRule("a rule speaks of two things that are alike")


# For counts and rules that have been looked at.
def book_by_rule(many, rule):
    if rule[0] == "not":
        return join_books("less", book_of_walk(many, FREE), book_by_rule(many, rule[1]))
    if rule[0] in JOINS:
        return join_books(JOINS[rule[0]], book_by_rule(many, rule[1]), book_by_rule(many, rule[2]))
    return book_of_walk(many, rule)


# A rule without rules within is followed from place to place. A state is the
# place, the things that are gone, a bit for each, and the rule's own mark: for
# "next" whether the one has just gone, for "even" whether the crossings so far
# are odd. So no order that keeps the rule closes with another mark than 0.
def book_of_walk(many, rule):
    return grown(many, (0, 0, 0), lambda state: doors_by_rule(many, rule, state))


def doors_by_rule(many, rule, state):
    return [(thing, state_behind(many, rule, state, thing)) for thing in things_left(many, state[1])]


def things_left(many, gone):
    return [thing for thing in range(many) if not has_gone(gone, thing)]


def has_gone(gone, thing):
    return (gone >> thing) & 1 == 1


def state_behind(many, rule, state, thing):
    mark = mark_behind(many, rule, state, thing)
    if mark == BROKEN:
        return NO_ROOM
    if state[0] + 1 < many:
        return (state[0] + 1, state[1] | (1 << thing), mark)
    return END if mark == 0 else NO_ROOM


def mark_behind(many, rule, state, thing):
    if rule[0] == "at":
        return BROKEN if (state[0] == rule[1]) != (thing == rule[2]) else 0
    if rule[0] == "ahead":
        return BROKEN if thing == rule[2] and not has_gone(state[1], rule[1]) else 0
    if rule[0] == "next":
        return mark_behind_next(rule, state, thing)
    if rule[0] == "even":
        return (state[2] + crossed_by(many, state[1], thing)) % 2
    return 0


def mark_behind_next(rule, state, thing):
    if (state[2] == 1) != (thing == rule[2]):
        return BROKEN
    return 1 if thing == rule[1] else 0


# How many greater things have gone ahead of this one.
def crossed_by(many, gone, thing):
    return len([greater for greater in range(thing + 1, many) if has_gone(gone, greater)])
