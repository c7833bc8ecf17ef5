import unittest
from itertools import combinations, product
from random import Random

from helper import (check_asked_again, check_enough_moves, check_moves, check_no_wishes, check_own_lists, check_refusal,
                    check_row, things_of_no_name, tuples_with)
from lateknow.errors import NoState
from lateknow.stores import Keeper, Store

# Names of one and of eight letters, and such as differ at one place or in length alone.
PAGES = ("m", "abcdefgh", "abcdefgi", "abcdefg", "zbcdefgh", "a", "mm", "z")
SORTED = ("a", "abcdefg", "abcdefgh", "abcdefgi", "m", "mm", "z", "zbcdefgh")
NINE = PAGES + ("n",)
ROWS = [PAGES[:many] for many in range(1, 9)]
NO_ROWS = (things_of_no_name() + list(PAGES) + [(), NINE, NINE * 10, list(PAGES), set(PAGES), dict.fromkeys(PAGES)]
           + tuples_with(things_of_no_name() + [(), ("m",), PAGES], PAGES)
           + tuples_with(things_of_no_name() + [(), ("m",)], ("m",)) + tuples_with(["abcdefghi"], PAGES)
           + [("m", "m"), ("m", "a", "m"), PAGES[:7] + ("m",), PAGES + ("m",), ("z",) * 8])
NO_WISHES = things_of_no_name() + [(), ("m",), PAGES, ("m", "a"), ["m"]] + [(name,) for name in PAGES]


def sorted_tuple(names):
    return tuple(sorted(names))


def states_among(names, many):
    return list(combinations(sorted(names), many))


class StoreTest(unittest.TestCase):
    def test_states(self):
        for many in range(1, 9):
            for state in states_among(NINE, many):
                self.assertIs(Store(many).is_state(state), True)
            for other in range(10):
                self.assertIs(Store(many).is_state(sorted_tuple(NINE[:other])), other == many)

    def test_no_states(self):
        for thing in NO_ROWS + ROWS[1:]:
            self.assertIs(Store(8).is_state(thing), False)
        for thing in tuples_with(things_of_no_name() + [(), ("m",)], SORTED):
            self.assertIs(Store(8).is_state(thing), False)
        for thing in tuples_with(SORTED, SORTED):
            self.assertIs(Store(8).is_state(thing), thing == SORTED)
        for thing in things_of_no_name() + ["m", (), ("a", "b"), (("m",),), ("M",), ("abcdefghi",), ["m"]]:
            self.assertIs(Store(1).is_state(thing), False)
        for thing in (("b", "a"), ("a", "a"), ("ab", "a"), ("b", "ab"), ("abcdefgi", "abcdefgh")):
            self.assertIs(Store(2).is_state(thing), False)
            self.assertIs(Store(2).is_state(thing[::-1]), thing != ("a", "a"))

    def test_wishes_are_names(self):
        for many in range(1, 9):
            for wish in NINE + ("qqqqqqqq",):
                self.assertIs(Store(many).is_wish(wish), True)
            for thing in NO_WISHES:
                self.assertIs(Store(many).is_wish(thing), False)

    def test_prices(self):
        self.assertEqual(Store(1).price(("a",), "b", ("b",)), 1)
        self.assertEqual(Store(1).price(("a",), "a", ("a",)), 0)
        self.assertIsNone(Store(1).price(("a",), "b", ("a",)))
        self.assertEqual(Store(3).price(("a", "b", "c"), "d", ("a", "b", "d")), 1)
        self.assertEqual(Store(3).price(("a", "b", "c"), "d", ("d", "e", "f")), 3)
        self.assertEqual(Store(3).price(("a", "b", "c"), "b", ("b", "e", "f")), 2)
        self.assertEqual(Store(3).price(("a", "b", "c"), "b", ("a", "b", "c")), 0)
        self.assertIsNone(Store(3).price(("a", "b", "c"), "b", ("a", "c", "d")))
        self.assertIsNone(Store(3).price(("a", "b", "c"), "aa", ("a", "b", "c")))
        self.assertEqual(Store(8).price(SORTED, "b", ("b", "c", "d", "e", "f", "g", "h", "i")), 8)

    def test_moves_where_the_state_has_the_wish(self):
        for row in ROWS:
            state = sorted_tuple(row)
            for wish in state:
                self.assertEqual(Store(len(row)).moves(state, wish), [(state, 0)])

    def test_moves_elsewhere(self):
        self.assertEqual(Store(1).moves(("m",), "a"), [(("a",), 1)])
        self.assertEqual(Store(2).moves(("b", "d"), "a"), [(("a", "b"), 1), (("a", "d"), 1)])
        self.assertEqual(Store(2).moves(("b", "d"), "e"), [(("b", "e"), 1), (("d", "e"), 1)])
        found = Store(3).moves(("b", "d", "f"), "c")
        self.assertEqual(found, [(("b", "c", "d"), 1), (("b", "c", "f"), 1), (("c", "d", "f"), 1)])
        for row in ROWS:
            state = sorted_tuple(row)
            gone = [sorted_tuple(rest + ("n",)) for rest in combinations(state, len(row) - 1)]
            self.assertEqual(Store(len(row)).moves(state, "n"), [(after, 1) for after in sorted(gone)])
            check_moves(self, Store(len(row)), state, "n")
            check_moves(self, Store(len(row)), state, row[-1])

    def test_moves_are_enough(self):
        dice = Random(6)
        for many, turn in product((1, 2, 3), range(10)):
            states = states_among("abcde", many)
            check_enough_moves(self, Store(many), dice.choice(states), dice.choices("abcde", k=8), states)


class KeeperTest(unittest.TestCase):
    def check_pays(self, rule, wish, cost, row):
        spent = rule.paid()
        self.assertEqual((rule.pay(wish), rule.pages(), rule.state()), (cost, list(row), sorted_tuple(row)))
        self.assertEqual(rule.paid(), spent + cost)

    def test_begin(self):
        for row in ROWS + [PAGES[::-1], SORTED]:
            rule = Keeper(row)
            self.assertEqual((rule.state(), rule.pages(), rule.paid()), (sorted_tuple(row), list(row), 0))
            self.assertEqual(rule.factor(), (len(row), 1))
            self.assertEqual((rule.parts(rule.state()), rule.height(rule.state())), ([0] * len(row), 0))
            self.assertIs(rule.world.is_state(rule.state()), True)

    def test_a_wish_that_it_has(self):
        for row in ROWS:
            for at, wish in enumerate(row):
                self.check_pays(Keeper(row), wish, 0, row[:at] + row[at + 1:] + (wish,))

    def test_a_wish_that_it_has_not(self):
        for row, wish in product(ROWS, ("n", "abcdef", "zbcdefgi", "aa")):
            self.check_pays(Keeper(row), wish, 1, row[1:] + (wish,))

    def test_row_of_wishes(self):
        rule = Keeper(("c", "a", "b"))
        self.check_pays(rule, "c", 0, ("a", "b", "c"))
        self.check_pays(rule, "d", 1, ("b", "c", "d"))
        self.check_pays(rule, "b", 0, ("c", "d", "b"))
        self.check_pays(rule, "b", 0, ("c", "d", "b"))
        self.check_pays(rule, "a", 1, ("d", "b", "a"))
        self.check_pays(rule, "c", 1, ("b", "a", "c"))
        self.assertEqual(rule.paid(), 3)

    def test_parts_are_in_the_order_of_the_row(self):
        rule = Keeper(("c", "a", "b"))
        self.assertEqual(rule.parts(("a", "b", "c")), [0, 0, 0])
        self.assertEqual(rule.parts(("a", "b", "d")), [1, 0, 0])
        self.assertEqual(rule.parts(("b", "c", "d")), [0, 2, 0])
        self.assertEqual(rule.parts(("d", "e", "f")), [1, 2, 3])
        self.assertEqual(rule.height(("d", "e", "f")), 6)
        rule.pay("c")
        self.assertEqual(rule.parts(("a", "b", "d")), [0, 0, 3])
        self.assertEqual(Keeper(PAGES).parts(("b", "c", "d", "e", "f", "g", "h", "z")), [1, 2, 3, 4, 5, 6, 7, 0])
        self.assertEqual([Keeper(("m",)).parts((page,)) for page in ("m", "mm")], [[0], [1]])

    def test_lists_are_ones_own(self):
        for ask in (lambda rule: rule.pages(), lambda rule: rule.parts(("a", "x", "y"))):
            check_own_lists(self, lambda: Keeper(("c", "a", "b")), ("d",), "a", ask)

    def test_asked_again(self):
        check_asked_again(self, Keeper(("c", "a", "b")), ("a", "d", "b", "c"), states_among("abcd", 3))

    def test_the_promise_over_every_step_of_few(self):
        for many, names in ((1, "abc"), (2, "abcd"), (3, "abcde")):
            states = states_among(names, many)
            for row in product(names, repeat=3):
                check_row(self, Keeper(tuple(names[:many])[::-1]), row, states)

    def test_the_promise_over_rows(self):
        dice = Random(10)
        for row in ROWS:
            for turn in range(3):
                states = [sorted_tuple(dice.sample(NINE + ("o", "p"), len(row))) for state in range(30)]
                wishes = dice.choices(NINE + ("o", "p"), k=15)
                check_row(self, Keeper(row), wishes, states + [sorted_tuple(row)])

    def test_no_start(self):
        for thing in NO_ROWS:
            check_refusal(self, NoState, Keeper, thing)

    def test_no_wish(self):
        states = (SORTED, sorted_tuple(NINE[1:]))
        for told in ((), ("n", "a")):
            check_no_wishes(self, lambda: Keeper(PAGES), told, NO_WISHES, ("z", "o", "m"), states)


if __name__ == "__main__":
    unittest.main()
