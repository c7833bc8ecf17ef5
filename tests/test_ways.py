import unittest
from itertools import product
from random import Random

from helper import (BOUND, check_asked_again, check_enough_moves, check_moves, check_no_wishes, check_own_lists,
                    check_refusal, check_row, least_over, things_of_no_kind, tuples_of_no_kind, tuples_with)
from lateknow.errors import NoState
from lateknow.ways import Changer, Ways

NO_AMOUNTS = [-1, -2, -BOUND, BOUND + 1, 10 * BOUND, -(10 ** 30), 10 ** 30]
NO_NUMBERS = things_of_no_kind() + [(), (0,), (1,), (0, 1), (0, 0, 0)] + tuples_of_no_kind()
THREE = (4, 0, BOUND)
NO_CHARGES = (things_of_no_kind() + [0, 1, 3, -1, BOUND, (), (0,), (0, 0), (0, 0, 0, 0), THREE[:2], THREE + (0,)]
              + [[4, 0, 7], {4: 0, 0: 1, 7: 2}, (THREE,), (THREE, THREE, THREE), "123", range(3)]
              + tuples_with(things_of_no_kind() + NO_AMOUNTS + [(), (0,), THREE], THREE))
TOLLS = (0, 1, 7, BOUND - 1, BOUND)


class WaysTest(unittest.TestCase):
    def test_states_are_the_ways(self):
        for many, way in product(range(1, 9), range(-2, 11)):
            self.assertIs(Ways(many, 5).is_state(way), 0 <= way < many)
        for many, thing in product((1, 2, 8), NO_NUMBERS + NO_AMOUNTS):
            self.assertIs(Ways(many, 5).is_state(thing), False)

    def test_wishes_are_charges(self):
        for many in range(1, 9):
            for charge in (0, 1, BOUND - 1, BOUND):
                for length in range(11):
                    self.assertIs(Ways(many, 5).is_wish((charge,) * length), length == many)
        for thing in NO_CHARGES:
            self.assertIs(Ways(3, 5).is_wish(thing), False)
        for thing in things_of_no_kind() + NO_AMOUNTS + [(), 0, 5, (0, 0), (True,), (None,), ("1",), ((1,),), [5]]:
            self.assertIs(Ways(1, 5).is_wish(thing), False)

    def test_prices(self):
        world = Ways(3, 10)
        self.assertEqual([world.price(0, (1, 2, 3), way) for way in (0, 1, 2)], [1, 12, 13])
        self.assertEqual([world.price(2, (1, 2, 3), way) for way in (0, 1, 2)], [11, 12, 3])
        self.assertEqual([Ways(2, 0).price(0, (4, 3), way) for way in (0, 1)], [4, 3])
        self.assertEqual(Ways(2, BOUND).price(1, (BOUND, 0), 0), 2 * BOUND)
        self.assertEqual(Ways(1, BOUND).price(0, (6,), 0), 6)

    def test_moves_are_all_ways(self):
        self.assertEqual(Ways(3, 10).moves(1, (1, 2, 3)), [(0, 11), (1, 2), (2, 13)])
        self.assertEqual(Ways(1, 10).moves(0, (1,)), [(0, 1)])
        for many, toll in product(range(1, 9), TOLLS):
            charges = (0, BOUND, 1, 5, 5, 0, 2, 3)[:many]
            for before in range(many):
                self.assertEqual([way for way, price in Ways(many, toll).moves(before, charges)], list(range(many)))
                check_moves(self, Ways(many, toll), before, charges)

    def test_moves_are_enough(self):
        dice = Random(4)
        for many, toll in product((1, 2, 4), (0, 3, 20)):
            row = [tuple(dice.randrange(9) for way in range(many)) for wish in range(8)]
            check_enough_moves(self, Ways(many, toll), 0, row, range(many))


class ChangerTest(unittest.TestCase):
    def check_pays(self, rule, wish, cost, way, numbers):
        spent = rule.paid()
        self.assertEqual((rule.pay(wish), rule.state(), rule.numbers()), (cost, way, numbers))
        self.assertEqual(rule.paid(), spent + cost)

    def test_begin(self):
        for many, toll in product(range(1, 9), TOLLS):
            for start in range(many):
                rule = Changer(many, toll, start)
                self.assertEqual((rule.state(), rule.paid(), rule.factor()), (start, 0, (2 * many - 1, 1)))
                self.assertEqual(rule.numbers(), [toll] * start + [0] + [toll] * (many - 1 - start))
                self.assertEqual((rule.parts(start), rule.height(start)), ([0] * many, 0))
            self.assertEqual((Changer(many, toll).state(), Changer(many, toll, start=many - 1).state()), (0, many - 1))

    def test_a_new_number_just_at_far_and_one_past_it(self):
        self.check_pays(Changer(2, 10), (20, 0), 20, 0, [20, 10])
        self.check_pays(Changer(2, 10), (21, 0), 10, 1, [20, 10])
        self.check_pays(Changer(2, 10, 1), (3, 23), 23, 1, [13, 23])
        self.check_pays(Changer(2, 10, 1), (3, 24), 13, 0, [13, 23])
        self.check_pays(Changer(2, BOUND), (BOUND, 0), BOUND, 0, [BOUND, BOUND])
        rule = Changer(2, BOUND // 2)
        self.check_pays(rule, (BOUND, 0), BOUND, 0, [BOUND, BOUND // 2])
        self.check_pays(rule, (1, 0), BOUND // 2, 1, [BOUND, BOUND // 2])

    def test_of_several_least_ways_the_first(self):
        self.check_pays(Changer(4, 2), (9, 3, 1, 1), 3, 2, [5, 5, 3, 3])
        self.check_pays(Changer(4, 2, 3), (1, 1, 1, 9), 3, 0, [3, 3, 3, 5])
        self.check_pays(Changer(4, 2, 1), (6, 9, 0, 0), 2, 2, [4, 4, 2, 2])
        self.check_pays(Changer(8, 0, 5), (1, 0, 0, 0, 0, 1, 0, 0), 0, 1, [0] * 8)

    def test_stays_where_its_number_is_one_of_several_least(self):
        self.check_pays(Changer(3, 5, 2), (0, 0, 5), 5, 2, [5, 5, 5])
        self.check_pays(Changer(3, 0, 2), (4, 4, 4), 4, 2, [4, 4, 4])

    def test_a_toll_of_nothing(self):
        rule = Changer(3, 0)
        self.check_pays(rule, (1, 5, 0), 0, 2, [0, 0, 0])
        self.check_pays(rule, (2, 2, 3), 2, 0, [2, 2, 2])
        self.check_pays(rule, (1, 1, 1), 1, 0, [3, 3, 3])
        self.assertEqual([rule.parts(way) for way in (0, 1, 2)], [[0, 0, 0]] * 3)

    def test_one_way(self):
        rule = Changer(1, 3)
        self.check_pays(rule, (BOUND,), BOUND, 0, [BOUND])
        self.check_pays(rule, (0,), 0, 0, [BOUND])
        self.assertEqual((rule.parts(0), rule.factor()), ([0], (1, 1)))

    def test_numbers_go_no_farther_than_the_toll(self):
        rule = Changer(3, 4)
        self.check_pays(rule, (0, 9, 2), 0, 0, [0, 4, 4])
        self.check_pays(rule, (3, 0, 9), 3, 0, [3, 4, 7])
        self.check_pays(rule, (3, 1, 0), 3, 0, [6, 5, 7])
        self.check_pays(rule, (8, 0, 1), 4, 1, [9, 5, 8])

    def test_parts(self):
        rule = Changer(3, 4)
        self.assertEqual([rule.parts(way) for way in (0, 1, 2)], [[0, 0, 0], [4, 8, 8], [4, 8, 8]])
        rule.pay((3, 0, 9))
        rule.pay((3, 1, 0))
        self.assertEqual((rule.state(), rule.numbers()), (0, [6, 5, 7]))
        self.assertEqual(rule.parts(0), [0, 10, 6])
        self.assertEqual(rule.parts(1), [-1, 8, 4])
        self.assertEqual(rule.parts(2), [1, 12, 8])
        self.assertEqual([rule.height(way) for way in (0, 1, 2)], [16, 11, 21])

    def test_numbers_are_what_a_hindsight_one_paid_at_least(self):
        dice = Random(8)
        for many, toll in product((1, 2, 3, 8), (0, 2, 9)):
            start = dice.randrange(many)
            rule, row = Changer(many, toll, start), []
            for turn in range(12):
                row.append(tuple(dice.randrange(7) for way in range(many)))
                rule.pay(row[-1])
                # One more wish that charges all other ways too much tells what standing at a way costs.
                for way, number in enumerate(rule.numbers()):
                    last = tuple(0 if other == way else BOUND for other in range(many))
                    self.assertEqual(number, least_over(rule.world, start, row + [last], rule.world.moves))

    def test_lists_are_ones_own(self):
        for ask in (lambda rule: rule.numbers(), lambda rule: rule.parts(1)):
            check_own_lists(self, lambda: Changer(3, 9), ((5, 1, 2),), (6, 0, 1), ask)

    def test_asked_again(self):
        check_asked_again(self, Changer(3, 4), ((5, 1, 2), (6, 0, 1), (0, 9, 9)), (0, 1, 2))

    def test_the_promise_over_every_step_of_few(self):
        for toll in (0, 1, 2):
            for row in product(product(range(4), repeat=2), repeat=2):
                check_row(self, Changer(2, toll), row, (0, 1))
            for start, row in product(range(3), product(product((0, 1, 3), repeat=3), repeat=2)):
                check_row(self, Changer(3, toll, start), row, (0, 1, 2))

    def test_the_promise_over_rows(self):
        dice = Random(9)
        for many, toll in product(range(1, 9), TOLLS):
            rule = Changer(many, toll, dice.randrange(many))
            for turn in range(25):
                most = dice.choice((1, toll // 2 + 1, BOUND))
                charges = [dice.randint(0, most) for way in range(many)]
                if turn % 3 == 0:
                    charges = [most if way == rule.state() else 0 for way in range(many)]
                check_row(self, rule, [tuple(charges)], range(many))

    def test_no_start(self):
        for thing in NO_NUMBERS + NO_AMOUNTS + [0, 9, 10, BOUND]:
            check_refusal(self, NoState, Changer, thing, 5)
            check_refusal(self, NoState, Changer, thing, 5, 0)
        for thing in NO_NUMBERS + NO_AMOUNTS:
            check_refusal(self, NoState, Changer, 3, thing)
            check_refusal(self, NoState, Changer, 3, thing, 2)
            check_refusal(self, NoState, Changer, 3, 5, thing)
            check_refusal(self, NoState, Changer, thing, thing, thing)
        for many in range(1, 9):
            for start in (many, many + 1, 8, -1, BOUND):
                check_refusal(self, NoState, Changer, many, 5, start)

    def test_no_wish(self):
        for told in ((), ((9, 0, 1), (9, 9, 0))):
            check_no_wishes(self, lambda: Changer(3, 4), told, NO_CHARGES, ((5, 1, 2), (0, 0, 9)), (0, 1, 2))


if __name__ == "__main__":
    unittest.main()
