import unittest
from copy import deepcopy
from random import Random

from ordernest.books import look_book, orders_in
from ordernest.errors import BadBook, BadOrder, BadRule
from ordernest.ruling import cut, ruled
from tests.wording import (
    MUCH, all_orders, drawn_rule, every_book, keeps, no_books, plain_book, plain_rules, some_orders, some_sets,
)

EVEN = ("even",)
NEVER = ("both", EVEN, ("not", EVEN))
ALWAYS = ("either", EVEN, ("not", EVEN))
NO_COUNTS = [0, 9, 10, -1, -8, MUCH, -MUCH]
BEYOND = [-1, -2, -MUCH, 10 ** 14, MUCH]


def nested(word, depth, inner=EVEN):
    """So many rules within one another, the innermost one counted."""
    rule = inner
    for turn in range(depth - 1):
        if word == "not":
            rule = ("not", rule)
        else:
            rule = (word, rule, EVEN) if turn % 2 else (word, EVEN, rule)
    return rule


def full_tree(depth, leaves):
    if depth == 1:
        return next(leaves)
    return ("both" if depth % 2 else "either", full_tree(depth - 1, leaves), full_tree(depth - 1, leaves))


def wrong_rules(many):
    """What is no rule for so many things, though it has no rule within."""
    yield from [("none",), ("",), ("Even",), ("even ",), ("AT", 0, 0), ("odd",), ("free",), ("and", EVEN, EVEN),
                ("or", EVEN, EVEN), ("behind", 0, 1), ("first", 0), ("not at", 0, 0)]
    yield from [("even", 0), ("even", EVEN), ("even", 0, 0), ("even", "even")]
    yield from [("at",), ("at", 0), ("at", 0, 0, 0), ("at", EVEN, 0), ("at", 0, EVEN), ("at", "0", 0), ("at", EVEN)]
    yield from [(0,), (0, 0, 0), (0, 1), (EVEN,), (EVEN, EVEN), ((),), (True,), (None,), ()]
    yield from [("at", True, 0), ("at", 0, False), ("at", None, 0)]
    for word in ("ahead", "next"):
        yield from [(word,), (word, 0), (word, 0, 1, 2), (word, 0, 1, 0), (word, EVEN, EVEN), (word, 0, EVEN)]
        for thing in range(many):
            yield (word, thing, thing)
        for number in BEYOND + [many, many + 1]:
            yield from [(word, number, 0), (word, 0, number), (word, number, number)]
            yield from [("at", number, 0), ("at", 0, number), ("at", many - 1, number), ("at", number, number)]


def wrong_shells():
    """Rules that are none for how many parts they have, or for what these are."""
    return [
        ("not",), ("not", EVEN, EVEN), ("not", 0), ("not", "even"), ("not", ()), ("not", None),
        ("both",), ("both", EVEN), ("both", EVEN, EVEN, EVEN), ("both", EVEN, 0), ("both", "even", EVEN),
        ("either",), ("either", EVEN), ("either", EVEN, EVEN, EVEN), ("either", 0, 1), ("either", EVEN, ("not",)),
        ("not", ["even"]), ("both", EVEN, ["even"]), (["even"],), ["even"], "even", 0, None,
    ]


def hidden(wrong):
    """A fault within rules, also where the answer would not turn on it."""
    yield from [("not", wrong), ("both", wrong, EVEN), ("both", EVEN, wrong), ("either", wrong, EVEN),
                ("either", EVEN, wrong), ("both", NEVER, wrong), ("both", wrong, NEVER), ("either", ALWAYS, wrong),
                ("either", wrong, ALWAYS), ("both", NEVER, ("not", wrong)), ("both", ("both", wrong, wrong), NEVER),
                ("not", ("not", ("not", ("not", ("not", wrong))))),
                ("either", ("either", ("either", ("either", ("either", wrong, EVEN), EVEN), EVEN), EVEN), EVEN),
                ("both", EVEN, ("both", EVEN, ("both", EVEN, ("both", EVEN, ("both", EVEN, wrong)))))]


class RuleCase(unittest.TestCase):
    def held(self, many, rule):
        told = ruled(many, rule)
        orders = [order for order in all_orders(many) if keeps(order, rule)]
        self.assertEqual(told, plain_book(many, orders), rule)
        self.assertEqual((type(told), type(told[1])), (tuple, list))
        self.assertIsNone(look_book(told))

    def refused(self, many, rule):
        with self.assertRaises(BadRule):
            ruled(many, rule)
        for book in ((many, [], 0), plain_book(many, [tuple(range(many))])):
            with self.assertRaises(BadRule):
                cut(book, rule)


class Ruled(RuleCase):
    def test_by_hand(self):
        self.assertEqual(orders_in(ruled(3, ("at", 1, 2))), [(0, 2, 1), (1, 2, 0)])
        self.assertEqual(orders_in(ruled(3, ("ahead", 2, 0))), [(1, 2, 0), (2, 0, 1), (2, 1, 0)])
        self.assertEqual(orders_in(ruled(3, ("next", 2, 0))), [(1, 2, 0), (2, 0, 1)])
        self.assertEqual(orders_in(ruled(3, EVEN)), [(0, 1, 2), (1, 2, 0), (2, 0, 1)])
        self.assertEqual(orders_in(ruled(3, ("not", EVEN))), [(0, 2, 1), (1, 0, 2), (2, 1, 0)])
        self.assertEqual(orders_in(ruled(3, ("both", EVEN, ("ahead", 2, 0)))), [(1, 2, 0), (2, 0, 1)])
        self.assertEqual(orders_in(ruled(3, ("either", ("at", 0, 0), ("at", 0, 2)))),
                         [(0, 1, 2), (0, 2, 1), (2, 0, 1), (2, 1, 0)])
        self.assertEqual(ruled(1, EVEN), (1, [((0, 1),)], 2))
        self.assertEqual(ruled(1, ("at", 0, 0)), (1, [((0, 1),)], 2))
        self.assertEqual(ruled(1, ("not", EVEN)), (1, [], 0))

    def test_each_plain_rule_at_each_place_and_thing(self):
        for many in range(1, 6):
            for rule in plain_rules(many):
                self.held(many, rule)
                self.held(many, ("not", rule))

    def test_plain_rules_of_more_things(self):
        for many in (6, 7):
            chance = Random(many)
            for word in ("at", "ahead", "next", "even"):
                rules = [rule for rule in plain_rules(many) if rule[0] == word]
                for rule in [rules[0], rules[-1]] + chance.sample(rules, min(3, len(rules))):
                    self.held(many, rule)
        for rule in (EVEN, ("at", 7, 0), ("at", 0, 7), ("ahead", 7, 0), ("next", 0, 7), ("not", ("next", 6, 5))):
            self.held(8, rule)

    def test_every_two_plain_rules(self):
        for many in (2, 3):
            for one in plain_rules(many):
                for other in plain_rules(many):
                    self.held(many, ("both", one, other))
                    self.held(many, ("either", one, other))
                    self.held(many, ("both", one, ("not", other)))

    def test_drawn_rules(self):
        for many, turns in ((1, 20), (2, 40), (3, 60), (4, 60), (5, 40), (6, 12), (7, 4), (8, 2)):
            chance = Random(many)
            for turn in range(turns):
                self.held(many, drawn_rule(many, 1 + turn % 6, chance))

    def test_as_many_rules_as_can_stand_within(self):
        chance = Random(32)
        for many in (3, 4, 5):
            rules = iter(chance.choices(plain_rules(many), k=32))
            self.held(many, full_tree(6, rules))

    def test_none_and_all(self):
        for many in range(1, 9):
            self.assertEqual(ruled(many, NEVER), (many, [], 0))
            self.assertEqual(ruled(many, ALWAYS), plain_book(many, all_orders(many)))

    def test_halves(self):
        for many in range(2, 9):
            for rule in (EVEN, ("ahead", 0, many - 1), ("ahead", many - 1, 0)):
                book = ruled(many, rule)
                self.assertEqual(len(orders_in(book)) * 2, len(all_orders(many)))


class Depth(RuleCase):
    def test_up_to_6_within_one_another(self):
        for depth in range(1, 7):
            for word in ("not", "both", "either"):
                for inner in (EVEN, ("at", 1, 2), ("ahead", 2, 0), ("next", 0, 1)):
                    self.held(3, nested(word, depth, inner))

    def test_7_and_more(self):
        for depth in (7, 8, 9, 12, 50, 3000):
            for word in ("not", "both", "either"):
                for inner in (EVEN, ("at", 1, 2), ("ahead", 2, 0), ("next", 0, 1)):
                    self.refused(3, nested(word, depth, inner))

    def test_the_deepest_part_tells(self):
        deep = nested("not", 5)
        for word in ("both", "either"):
            self.held(3, (word, deep, EVEN))
            self.held(3, (word, EVEN, deep))
            self.held(3, (word, deep, deep))
            for rule in ((word, ("not", deep), EVEN), (word, EVEN, ("not", deep)), (word, deep, (word, EVEN, deep)),
                         (word, NEVER, ("not", deep)), (word, ALWAYS, ("not", deep))):
                self.refused(3, rule)


class RuleRefused(RuleCase):
    def test_no_rules(self):
        for many in (1, 2, 3, 5, 8):
            for wrong in list(wrong_rules(many)) + wrong_shells():
                self.refused(many, wrong)

    def test_no_rules_deep_within(self):
        for many in (1, 3):
            for wrong in list(wrong_rules(many)) + wrong_shells():
                for rule in hidden(wrong):
                    self.refused(many, rule)

    def test_a_thing_and_a_place_that_other_counts_have(self):
        for many in range(1, 8):
            for rule in plain_rules(8):
                if rule != EVEN and max(rule[1:]) >= many:
                    self.refused(many, rule)

    def test_one_thing_has_no_pair(self):
        for word in ("ahead", "next"):
            for one, other in ((0, 0), (0, 1), (1, 0), (1, 1)):
                self.refused(1, (word, one, other))

    def test_counts_ahead_of_rules(self):
        for many in NO_COUNTS + [True]:
            for rule in [EVEN, ("at", 0, 0), ("none",), ("at", MUCH, 0), ("next", 1, 1), nested("not", 9)]:
                with self.assertRaises(BadOrder):
                    ruled(many, rule)

    def test_books_ahead_of_rules(self):
        for wrong in no_books():
            for rule in [EVEN, ("at", 0, 0), ("none",), ("at", MUCH, 0), ("next", 1, 1), nested("not", 9)]:
                with self.assertRaises(BadBook):
                    cut(wrong, rule)


class Cut(RuleCase):
    def cut_held(self, many, orders, rule):
        book = plain_book(many, orders)
        before = deepcopy(book)
        told = cut(book, rule)
        self.assertEqual(told, plain_book(many, [order for order in orders if keeps(order, rule)]), rule)
        self.assertEqual((type(told), type(told[1])), (tuple, list))
        self.assertIsNone(look_book(told))
        self.assertEqual(book, before)

    def test_each_plain_rule(self):
        for many in (1, 2, 3, 4):
            orders = sorted(some_orders(many, (len(all_orders(many)) + 1) // 2, many))
            for rule in plain_rules(many):
                self.cut_held(many, orders, rule)
                self.cut_held(many, orders, ("not", rule))

    def test_every_set_of_3_things(self):
        for book in every_book(3):
            orders = orders_in(book)
            for rule in (EVEN, ("at", 0, 2), ("ahead", 1, 0), ("next", 0, 2), ("not", ("at", 2, 2)), NEVER, ALWAYS):
                self.cut_held(3, orders, rule)

    def test_drawn_rules_and_sets(self):
        chance = Random(8)
        for turn, (many, orders) in enumerate(some_sets()):
            if many > 3 or turn % 4 == 0:
                for depth in (1, 2, 6):
                    self.cut_held(many, orders, drawn_rule(many, depth, chance))

    def test_no_orders_and_all_orders(self):
        for many in range(1, 9):
            for rule in (EVEN, ("at", many - 1, 0), NEVER, ALWAYS):
                self.assertEqual(cut((many, [], 0), rule), (many, [], 0))
                self.assertEqual(cut(plain_book(many, all_orders(many)), rule), ruled(many, rule))

    def test_cut_again(self):
        book = plain_book(5, all_orders(5))
        rules = [("ahead", 0, 4), ("not", ("next", 0, 4)), EVEN, ("either", ("at", 2, 2), ("at", 2, 3))]
        orders = all_orders(5)
        for rule in rules:
            book = cut(book, rule)
            orders = [order for order in orders if keeps(order, rule)]
            self.assertEqual(book, plain_book(5, orders))
        self.assertNotEqual(orders, [])


class Kept(RuleCase):
    def test_told_rooms_are_a_new_list(self):
        for orders in ([], [(2, 0, 1)], all_orders(3)):
            book = plain_book(3, orders)
            told = cut(book, ALWAYS)
            self.assertEqual(told, book)
            self.assertIsNot(told[1], book[1])
            told[1].append("changed")
            self.assertEqual(book, plain_book(3, orders))
            self.assertEqual(cut(book, ALWAYS), book)

    def test_no_two_answers_are_one_list(self):
        for rule in (EVEN, NEVER, ALWAYS, ("at", 0, 1)):
            one, other = ruled(3, rule), ruled(3, rule)
            self.assertEqual(one, other)
            self.assertIsNot(one[1], other[1])
            one[1].clear()
            self.assertEqual(ruled(3, rule), other)

    def test_a_book_that_was_refused_is_as_it_was(self):
        book = plain_book(3, all_orders(3))
        before = deepcopy(book)
        for rule in wrong_shells():
            with self.assertRaises(BadRule):
                cut(book, rule)
        self.assertEqual(book, before)


if __name__ == "__main__":
    unittest.main()
