import unittest
from itertools import combinations, permutations, product
from random import Random

from helper import (check_asked_again, check_enough_moves, check_moves, check_no_wishes, check_own_lists, check_refusal,
                    check_row, things_of_no_name, tuples_with)
from lateknow.errors import NoState, TooGreat
from lateknow.shelf import Front, Shelf

# Names of one and of eight letters, and such as differ at one place or in length alone.
THINGS = ("m", "abcdefgh", "abcdefgi", "abcdefg", "zbcdefgh", "a", "mm", "z")
NINE = THINGS + ("n",)
ROWS = [THINGS[:many] for many in range(1, 9)]
NO_STATES = (things_of_no_name() + list(THINGS) + [(), NINE, list(THINGS), set(THINGS), dict.fromkeys(THINGS)]
             + tuples_with(things_of_no_name() + [(), ("m",), THINGS], THINGS)
             + tuples_with(things_of_no_name() + [(), ("m",)], ("m",))
             + tuples_with(["abcdefgj", "abcdef", "abcdefghi", "mmm"], THINGS)
             + [THINGS[:at] + THINGS[at + 1:] for at in range(8)] + [THINGS[:7] + (name,) for name in THINGS[:7]]
             + [THINGS + (name,) for name in THINGS])
NO_STARTS = (things_of_no_name() + list(THINGS) + [(), NINE, NINE * 10]
             + [list(THINGS), set(THINGS), dict.fromkeys(THINGS)]
             + tuples_with(things_of_no_name() + [(), ("m",), THINGS], THINGS)
             + tuples_with(things_of_no_name() + [(), ("m",)], ("m",)) + tuples_with(["abcdefghi"], THINGS)
             + [("m", "m"), ("m", "a", "m"), THINGS[:7] + ("m",), THINGS + ("m",), ("z",) * 8])
NO_WISHES = (things_of_no_name() + [(), ("m",), THINGS, ("m", "a")] + [(name,) for name in THINGS]
             + ["n", "abcdefgj", "abcdef", "abcdefghi", "bbcdefgh", "b", "mmm", "M"])


def turned(before, after):
    """The pairs that stand the one way round ahead and the other way round behind, counted pair by pair."""
    return sum((before.index(one) < before.index(two)) != (after.index(one) < after.index(two))
               for one, two in combinations(before, 2))


class ShelfTest(unittest.TestCase):
    def test_states_are_all_orders(self):
        for row in ROWS[:5]:
            for order in permutations(row):
                self.assertIs(Shelf(row).is_state(order), True)
        for row, other in product(ROWS, ROWS):
            self.assertIs(Shelf(row).is_state(other), row == other)
        self.assertIs(Shelf(THINGS).is_state(THINGS[::-1]), True)

    def test_no_states(self):
        for thing in NO_STATES:
            self.assertIs(Shelf(THINGS).is_state(thing), False)
        for thing in things_of_no_name() + ["m", (), ("a",), ("mm",), ("m", "m"), ["m"], (("m",),)]:
            self.assertIs(Shelf(("m",)).is_state(thing), False)

    def test_wishes_are_the_things(self):
        for row, wish in product(ROWS, THINGS):
            self.assertIs(Shelf(row).is_wish(wish), wish in row)
        for row, thing in product((THINGS, ("m",), THINGS[3:]), NO_WISHES):
            self.assertIs(Shelf(row).is_wish(thing), False)

    def test_prices(self):
        world = Shelf(("a", "b", "c"))
        self.assertEqual(world.price(("a", "b", "c"), "a", ("a", "b", "c")), 1)
        self.assertEqual(world.price(("a", "b", "c"), "c", ("a", "b", "c")), 3)
        self.assertEqual(world.price(("a", "b", "c"), "c", ("c", "a", "b")), 3)
        self.assertEqual(world.price(("a", "b", "c"), "c", ("c", "b", "a")), 4)
        self.assertEqual(world.price(("a", "b", "c"), "a", ("c", "b", "a")), 6)
        self.assertEqual(world.price(("b", "a", "c"), "a", ("b", "c", "a")), 4)
        self.assertEqual(Shelf(("m",)).price(("m",), "m", ("m",)), 1)
        self.assertEqual(Shelf(THINGS).price(THINGS, "z", THINGS[::-1]), 29)
        self.assertEqual(Shelf(THINGS).price(THINGS, "m", THINGS[::-1]), 36)

    def test_prices_pair_by_pair(self):
        for row in ROWS[:4]:
            for before, wish, after in product(permutations(row), row, permutations(row)):
                self.assertEqual(Shelf(row).price(before, wish, after), turned(before, after) + after.index(wish) + 1)

    def test_moves_are_all_orders(self):
        self.assertEqual(Shelf(("m",)).moves(("m",), "m"), [(("m",), 1)])
        self.assertEqual(Shelf(("m", "a")).moves(("m", "a"), "a"), [(("a", "m"), 2), (("m", "a"), 2)])
        self.assertEqual(Shelf(("m", "a")).moves(("m", "a"), "m"), [(("a", "m"), 3), (("m", "a"), 1)])
        for row in ROWS[:4]:
            for wish in row:
                found = Shelf(row).moves(row, wish)
                self.assertEqual([after for after, price in found], sorted(permutations(row)))
                check_moves(self, Shelf(row), row, wish)

    def test_moves_of_more_than_four_things_are_refused(self):
        self.assertEqual(len(Shelf(THINGS[:4]).moves(THINGS[:4], "m")), 24)
        for row in ROWS[4:]:
            for wish in row:
                check_refusal(self, TooGreat, Shelf(row).moves, row, wish)
            self.assertEqual(Shelf(row).price(row, row[-1], row), len(row))

    def test_moves_are_enough(self):
        dice = Random(2)
        for row in ROWS[:3]:
            states = list(permutations(row))
            check_enough_moves(self, Shelf(row), row, [dice.choice(row) for wish in range(6)], states)


class FrontTest(unittest.TestCase):
    def test_begin(self):
        for row in ROWS:
            rule = Front(row)
            many = len(row)
            self.assertEqual((rule.state(), rule.paid(), rule.factor()), (row, 0, (2 * many - 1, many)))
            self.assertEqual((rule.parts(row), rule.height(row)), ([0] * many, 0))
            self.assertIs(rule.world.is_state(row), True)

    def test_the_wished_thing_comes_to_the_front(self):
        for row in ROWS:
            for at, wish in enumerate(row):
                rule = Front(row)
                self.assertEqual((rule.pay(wish), rule.paid()), (at + 1, at + 1))
                self.assertEqual(rule.state(), (wish,) + row[:at] + row[at + 1:])

    def test_row_of_wishes(self):
        rule = Front(("a", "b", "c", "d"))
        self.assertEqual([rule.pay(wish) for wish in ("c", "c", "b", "d", "a")], [3, 1, 3, 4, 4])
        self.assertEqual((rule.state(), rule.paid()), (("a", "d", "b", "c"), 15))

    def test_parts_are_in_the_rules_own_order(self):
        rule = Front(("c", "a", "b"))
        self.assertEqual(rule.parts(("a", "b", "c")), [6, 0, 0])
        self.assertEqual(rule.parts(("b", "a", "c")), [6, 3, 0])
        self.assertEqual(rule.parts(("b", "c", "a")), [3, 3, 0])
        self.assertEqual(rule.height(("b", "c", "a")), 6)
        rule.pay("b")
        self.assertEqual(rule.parts(("b", "c", "a")), [0, 0, 0])
        self.assertEqual(rule.parts(("c", "a", "b")), [6, 0, 0])
        self.assertEqual(Front(THINGS).parts(THINGS[::-1]), [56, 48, 40, 32, 24, 16, 8, 0])
        self.assertEqual(Front(("m",)).parts(("m",)), [0])

    def test_height_counts_the_turned_pairs(self):
        for start, other in product(permutations(THINGS[:4]), repeat=2):
            self.assertEqual(Front(start).height(other), 4 * turned(start, other))

    def test_factor_is_not_put_in_lowest_terms(self):
        self.assertEqual(Front(("a",)).factor(), (1, 1))
        self.assertEqual(Front(THINGS).factor(), (15, 8))

    def test_lists_are_ones_own(self):
        check_own_lists(self, lambda: Front(THINGS[:3]), ("abcdefgh",), "abcdefgi", lambda rule: rule.parts(THINGS[:3]))

    def test_asked_again(self):
        check_asked_again(self, Front(THINGS), ("z", "a", "m", "z"), (THINGS, THINGS[::-1]))

    def test_the_promise_over_every_step_of_few(self):
        for row in ROWS[:4]:
            states = list(permutations(row))
            for start in (row, row[::-1], row[1:] + row[:1]):
                for wish in row:
                    check_row(self, Front(start), (wish,), states)
            check_row(self, Front(row), row + row[::-1], states)

    def test_the_promise_over_rows(self):
        dice = Random(12)
        for row in ROWS[4:]:
            for turn in range(3):
                states = [row, row[::-1]] + [tuple(dice.sample(row, len(row))) for state in range(20)]
                wishes = [dice.choice(row) for wish in range(8)]
                check_row(self, Front(dice.choice(states)), wishes + [row[-1], row[0]], states)

    def test_no_start(self):
        for thing in NO_STARTS:
            check_refusal(self, NoState, Front, thing)

    def test_no_wish(self):
        for told in ((), ("a", "z")):
            check_no_wishes(self, lambda: Front(THINGS), told, NO_WISHES, ("z", "m", "m"), (THINGS, THINGS[::-1]))


if __name__ == "__main__":
    unittest.main()
