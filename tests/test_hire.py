import unittest
from itertools import product
from random import Random

from helper import (BOUND, check_enough_moves, check_moves, check_no_wishes, check_refusal, check_row,
                    things_of_no_kind, tuples_of_no_kind)
from lateknow.errors import NoState
from lateknow.hire import Buyer, Hire

NO_AMOUNTS = [-1, -2, -BOUND, BOUND + 1, 10 * BOUND, -(10 ** 30), 10 ** 30]
NO_NUMBERS = things_of_no_kind() + [(), (0,), (1,), (0, 1)] + tuples_of_no_kind()
WHOLES = (1, 2, 3, 10, BOUND - 1, BOUND)


class HireTest(unittest.TestCase):
    def test_states(self):
        for whole in WHOLES:
            self.assertIs(Hire(whole).is_state(0), True)
            self.assertIs(Hire(whole).is_state(1), True)
            for thing in NO_NUMBERS + NO_AMOUNTS + [2, 3, BOUND]:
                self.assertIs(Hire(whole).is_state(thing), False)

    def test_wishes_are_amounts(self):
        for whole in WHOLES:
            for wish in (0, 1, 2, whole - 1, whole, whole + 1, BOUND - 1, BOUND):
                self.assertIs(Hire(whole).is_wish(wish), 0 <= wish <= BOUND)
            for thing in NO_NUMBERS + NO_AMOUNTS:
                self.assertIs(Hire(whole).is_wish(thing), False)

    def test_prices(self):
        for whole, wish in product(WHOLES, (0, 1, 7, BOUND)):
            world = Hire(whole)
            self.assertEqual(world.price(0, wish, 0), wish)
            self.assertEqual(world.price(0, wish, 1), whole)
            self.assertEqual(world.price(1, wish, 1), 0)
            self.assertIsNone(world.price(1, wish, 0))

    def test_moves_are_all_that_one_may_go(self):
        for whole, wish in product(WHOLES, (0, 1, 7, BOUND)):
            world = Hire(whole)
            self.assertEqual(world.moves(0, wish), [(0, wish), (1, whole)])
            self.assertEqual(world.moves(1, wish), [(1, 0)])
            check_moves(self, world, 0, wish)
            check_moves(self, world, 1, wish)

    def test_moves_are_enough(self):
        for whole, row in product((1, 2, 5), product((0, 1, 2, 6), repeat=3)):
            check_enough_moves(self, Hire(whole), 0, row, (0, 1))


class BuyerTest(unittest.TestCase):
    def test_begin(self):
        for whole in WHOLES:
            rule = Buyer(whole)
            self.assertEqual((rule.state(), rule.paid()), (0, 0))
            self.assertEqual(rule.world.price(0, 0, 1), whole)
            self.assertEqual(rule.factor(), (2 * whole - 1, whole))
            self.assertEqual(rule.parts(0), [0])
            self.assertEqual(rule.parts(1), [whole * (2 * whole - 1)])

    def test_game_of_the_document(self):
        rule = Buyer(3)
        self.assertEqual(rule.height(0), 0)
        self.assertEqual((rule.pay(2), rule.state(), rule.height(0), rule.height(1)), (2, 0, 4, 9))
        self.assertEqual((rule.pay(2), rule.state(), rule.height(0), rule.height(1)), (3, 1, 0, 0))
        self.assertEqual((rule.paid(), rule.factor()), (5, (5, 3)))

    def test_hires_that_just_reach_the_whole_or_miss_it_by_one(self):
        for whole in WHOLES:
            missing = Buyer(whole)
            self.assertEqual((missing.pay(whole - 1), missing.state()), (whole - 1, 0))
            self.assertEqual((missing.pay(0), missing.state(), missing.paid()), (0, 0, whole - 1))
            self.assertEqual((missing.pay(1), missing.state(), missing.paid()), (whole, 1, 2 * whole - 1))
            reaching = Buyer(whole)
            self.assertEqual((reaching.pay(whole), reaching.state(), reaching.paid()), (whole, 1, whole))
            past = Buyer(whole)
            self.assertEqual((past.pay(BOUND), past.state(), past.paid()), (whole, 1, whole))

    def test_hires_of_nothing(self):
        rule = Buyer(1)
        for day in range(20):
            self.assertEqual((rule.pay(0), rule.state(), rule.paid()), (0, 0, 0))
        self.assertEqual((rule.pay(1), rule.state()), (1, 1))

    def test_never_pays_again(self):
        rule = Buyer(4)
        rule.pay(4)
        for wish in (0, 1, 3, 4, BOUND):
            self.assertEqual((rule.pay(wish), rule.state(), rule.paid()), (0, 1, 4))
            self.assertEqual((rule.parts(0), rule.parts(1)), ([0], [0]))

    def test_parts_while_it_hires(self):
        rule = Buyer(10)
        for wish, spent in ((3, 3), (0, 3), (4, 7), (2, 9)):
            self.assertEqual(rule.pay(wish), wish)
            self.assertEqual(rule.parts(0), [9 * spent])
            self.assertEqual(rule.parts(1), [10 * (19 - spent)])
            self.assertEqual((rule.height(0), rule.height(1)), (9 * spent, 10 * (19 - spent)))

    def test_factor_is_not_put_in_lowest_terms(self):
        self.assertEqual(Buyer(1).factor(), (1, 1))
        self.assertEqual(Buyer(BOUND).factor(), (2 * BOUND - 1, BOUND))

    def test_lists_are_ones_own(self):
        rule = Buyer(10)
        rule.pay(3)
        mine = rule.parts(1)
        mine.append(5)
        mine[0] = -1
        self.assertEqual((rule.parts(1), rule.height(1)), ([160], 160))
        kept = rule.parts(1)
        rule.pay(4)
        self.assertEqual(kept, [160])

    def test_asked_again(self):
        rule = Buyer(6)
        rule.pay(2)
        for turn in range(3):
            self.assertEqual((rule.state(), rule.paid(), rule.factor()), (0, 2, (11, 6)))
            self.assertEqual((rule.parts(0), rule.parts(1)), ([10], [54]))

    def test_the_promise_over_every_step(self):
        for whole in range(1, 7):
            for row in product(range(whole + 2), repeat=3):
                check_row(self, Buyer(whole), row, (0, 1))

    def test_the_promise_over_long_rows_and_great_numbers(self):
        dice = Random(7)
        for whole in (1, 2, 13, 100, BOUND - 1, BOUND):
            for turn in range(20):
                row = [dice.randint(0, dice.choice((1, whole // 10 + 1, BOUND))) for day in range(40)]
                check_row(self, Buyer(whole), row, (0, 1))

    def test_no_start(self):
        for thing in NO_NUMBERS + NO_AMOUNTS + [0]:
            check_refusal(self, NoState, Buyer, thing)

    def test_no_wish(self):
        for told in ((), (3, 0), (10,)):
            check_no_wishes(self, lambda: Buyer(10), told, NO_NUMBERS + NO_AMOUNTS, (5, 2, 9, 1), (0, 1))


if __name__ == "__main__":
    unittest.main()
