"""Books written as texts, and read from them."""

from ordernest.books import look_book
from ordernest.errors import BadBook, BadText

FIGURES = "0123456789"
# No whole number has more; so none is read that Python would find too long.
MOST_FIGURES = 15


def written(book):
    look_book(book)
    rows = [written_pair(book[0], " ", book[2])]
    return "\n".join(rows + [written_room(room) for room in book[1]])


def written_room(room):
    return " ".join([written_pair(thing, ":", number) for thing, number in room])


def written_pair(one, sign, other):
    return f"{one}{sign}{other}"


def read(text):
    rows = text.split("\n")
    ends = numbers_in(rows[0], " ")
    book = (ends[0], [read_room(row) for row in rows[1:]], ends[1])
    try:
        look_book(book)
    except BadBook:
        raise BadText("the rows tell what is no book") from None
    return book


def read_room(row):
    return tuple([numbers_in(door, ":") for door in row.split(" ")])


# The pair of the two numbers between which the sign stands.
def numbers_in(text, sign):
    parts = text.split(sign)
    if len(parts) != 2:
        raise BadText("two numbers are not parted as they should be")
    return (read_number(parts[0]), read_number(parts[1]))


def read_number(text):
    if not 1 <= len(text) <= MOST_FIGURES:
        raise BadText("a number has no figures or too many")
    if not all([figure in FIGURES for figure in text]):
        raise BadText("a number has other signs than figures")
    if text[0] == "0" and len(text) > 1:
        raise BadText("a number has noughts ahead")
    return int(text)
