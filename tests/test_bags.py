import unittest
from itertools import combinations_with_replacement, product
from random import Random

from helper import (BOUND, check_asked_again, check_enough_moves, check_moves, check_no_wishes, check_own_lists,
                    check_refusal, check_row, things_of_no_kind, tuples_of_no_kind, tuples_with)
from lateknow.bags import Bags, Filler
from lateknow.errors import NoState

NO_AMOUNTS = [-1, -2, -BOUND, BOUND + 1, 10 * BOUND, -(10 ** 30), 10 ** 30]
NO_NUMBERS = things_of_no_kind() + [(), (0,), (1,), (0, 1), (1, 1)] + tuples_of_no_kind()
ROOMS = (1, 2, 3, 10, BOUND - 1, BOUND)


def states_among(room, most):
    """All states of up to so many bags."""
    return [state for many in range(most + 1)
            for state in combinations_with_replacement(range(1, room + 1), many)]


def goals(before, size, room):
    """To where one may go, with the price, bag by bag."""
    found = {tuple(sorted(before + (size,))): 1}
    for at, load in enumerate(before):
        if load + size <= room:
            loads = list(before)
            loads[at] += size
            found[tuple(sorted(loads))] = 0
    return found


class BagsTest(unittest.TestCase):
    def test_states(self):
        for room in ROOMS:
            for state in ((), (1,), (room,), (1, 1), (1, room), (room,) * 500, (1,) * 250 + (room,) * 250):
                self.assertIs(Bags(room).is_state(state), True)

    def test_no_states(self):
        wrong = things_of_no_kind() + NO_AMOUNTS + [0, (), (1,)]
        for room in ROOMS:
            for thing in wrong[:-2] + [1, room]:
                self.assertIs(Bags(room).is_state(thing), False)
            for filling in ((1,), (1, room), (1, 1, room)):
                for thing in tuples_with(wrong, filling):
                    self.assertIs(Bags(room).is_state(thing), False)
            for thing in ((room + 1,), (1, room + 1), (0,), (0, 1), (1,) * 501, (room,) * 501, (1,) * 10000):
                self.assertIs(Bags(room).is_state(thing), False)
        for thing in ((2, 1), (1, 3, 2), (3, 1, 2), (5, 4, 3), (2,) * 499 + (1,)):
            self.assertIs(Bags(10).is_state(thing), False)
            self.assertIs(Bags(10).is_state(tuple(sorted(thing))), True)

    def test_wishes_are_sizes(self):
        for room in ROOMS:
            for wish in (-1, 0, 1, 2, room - 1, room, room + 1, BOUND, BOUND + 1):
                self.assertIs(Bags(room).is_wish(wish), 1 <= wish <= room)
            for thing in NO_NUMBERS + NO_AMOUNTS:
                self.assertIs(Bags(room).is_wish(thing), False)

    def test_prices(self):
        world = Bags(10)
        self.assertEqual(world.price((), 4, (4,)), 1)
        self.assertEqual(world.price((4,), 6, (10,)), 0)
        self.assertEqual(world.price((4,), 6, (4, 6)), 1)
        self.assertEqual(world.price((2, 4, 9), 1, (2, 5, 9)), 0)
        self.assertEqual(world.price((2, 4, 9), 6, (4, 8, 9)), 0)
        self.assertEqual(world.price((2, 4, 9), 3, (2, 3, 4, 9)), 1)
        self.assertEqual(world.price((2, 2, 2), 1, (2, 2, 3)), 0)
        self.assertIsNone(world.price((), 4, ()))
        self.assertIsNone(world.price((), 4, (5,)))
        self.assertIsNone(world.price((4,), 6, (4,)))
        self.assertIsNone(world.price((4,), 6, (6,)))
        self.assertIsNone(world.price((4,), 6, ()))
        self.assertIsNone(world.price((2, 4), 2, (4, 6)))
        self.assertIsNone(world.price((2, 4), 2, (6,)))
        self.assertIsNone(world.price((2, 4), 2, (2, 2, 2, 4)))
        self.assertEqual(Bags(BOUND).price((1, BOUND - 1), BOUND - 1, (BOUND - 1, BOUND)), 0)

    def test_prices_bag_by_bag(self):
        for room, most in ((1, 4), (2, 4), (3, 4), (5, 3)):
            states = states_among(room, most)
            for before, wish, after in product(states, range(1, room + 1), states):
                self.assertEqual(Bags(room).price(before, wish, after), goals(before, wish, room).get(after))

    def test_moves_are_all_that_one_may_go(self):
        self.assertEqual(Bags(10).moves((), 4), [((4,), 1)])
        self.assertEqual(Bags(10).moves((2, 2, 7), 3), [((2, 2, 3, 7), 1), ((2, 2, 10), 0), ((2, 5, 7), 0)])
        self.assertEqual(Bags(10).moves((2, 2, 7), 4), [((2, 2, 4, 7), 1), ((2, 6, 7), 0)])
        self.assertEqual(Bags(10).moves((1, 7), 10), [((1, 7, 10), 1)])
        for room in (1, 2, 5):
            for before, wish in product(states_among(room, 3), range(1, room + 1)):
                self.assertEqual(Bags(room).moves(before, wish), sorted(goals(before, wish, room).items()))
                check_moves(self, Bags(room), before, wish)

    def test_a_size_that_just_fits_and_one_that_is_one_too_great(self):
        for room in ROOMS[2:]:
            fitting = sorted([((room,), 0), (tuple(sorted((2, room - 2))), 1)])
            self.assertEqual(Bags(room).moves((2,), room - 2), fitting)
            self.assertEqual(Bags(room).moves((2,), room - 1), [(tuple(sorted((2, room - 1))), 1)])
            self.assertEqual(Bags(room).moves((2,), room), [((2, room), 1)])

    def test_five_hundred_opened_bags(self):
        world = Bags(3)
        self.assertEqual(world.moves((3,) * 499, 1), [((1,) + (3,) * 499, 1)])
        self.assertEqual(world.price((2,) * 499, 2, (2,) * 500), 1)
        self.assertEqual(world.moves((2,) * 500, 1), [((2,) * 499 + (3,), 0)])
        self.assertEqual(world.moves((2,) * 500, 2), [])
        self.assertEqual(world.moves((3,) * 500, 1), [])
        self.assertEqual(world.price((2,) * 500, 1, (2,) * 499 + (3,)), 0)
        self.assertIsNone(world.price((2,) * 500, 2, (2,) * 501))
        great = tuple(range(1, 501))
        goal = [great[:at] + (at + 2,) + great[at + 1:] for at in range(499)]
        self.assertTrue(Bags(500).moves(great, 1) == [(after, 0) for after in sorted(goal)])

    def test_moves_are_enough(self):
        dice = Random(13)
        for room in (1, 2, 3):
            states = states_among(room, 5)
            check_enough_moves(self, Bags(room), (), [dice.randint(1, room) for wish in range(5)], states)


class FillerTest(unittest.TestCase):
    def check_pays(self, rule, size, cost, loads):
        spent = rule.paid()
        self.assertEqual((rule.pay(size), rule.loads(), rule.state()), (cost, loads, tuple(sorted(loads))))
        self.assertEqual(rule.paid(), spent + cost)

    def test_begin(self):
        for room in ROOMS:
            rule = Filler(room)
            self.assertEqual((rule.state(), rule.loads(), rule.paid()), ((), [], 0))
            self.assertEqual(rule.factor(), (2 * room, room))
            self.assertEqual((rule.parts(()), rule.height(())), ([0, room], room))
            self.assertEqual(rule.parts((1, room)), [2 * (room - 1), room])
            self.assertIs(rule.world.is_state(()), True)

    def test_row_of_wishes(self):
        rule = Filler(10)
        self.check_pays(rule, 7, 1, [7])
        self.check_pays(rule, 4, 1, [7, 4])
        self.check_pays(rule, 3, 0, [7, 7])
        self.check_pays(rule, 3, 0, [7, 10])
        self.check_pays(rule, 1, 1, [7, 10, 1])
        self.check_pays(rule, 10, 1, [7, 10, 1, 10])
        self.check_pays(rule, 2, 1, [7, 10, 1, 10, 2])
        self.assertEqual(rule.paid(), 5)

    def test_a_size_that_just_fits_and_one_that_is_one_too_great(self):
        for room in ROOMS[2:]:
            rule = Filler(room)
            self.check_pays(rule, 2, 1, [2])
            self.check_pays(rule, room - 2, 0, [room])
            rule = Filler(room)
            self.check_pays(rule, 2, 1, [2])
            self.check_pays(rule, room - 1, 1, [2, room - 1])

    def test_sizes_of_the_room_itself(self):
        for room in ROOMS:
            rule = Filler(room)
            self.check_pays(rule, room, 1, [room])
            self.check_pays(rule, room, 1, [room, room])
            self.check_pays(rule, 1, 1, [room, room, 1])

    def test_parts(self):
        rule = Filler(10)
        self.assertEqual(rule.parts((1, 4, 10)), [30, 10])
        rule.pay(7)
        self.assertEqual(rule.parts((1, 4, 10)), [30, 7])
        self.assertEqual(rule.parts(()), [0, 7])
        rule.pay(4)
        self.assertEqual((rule.parts((9,)), rule.height((9,))), ([2, 4], 6))
        rule.pay(5)
        self.assertEqual(rule.parts((10, 10)), [0, 9])
        self.assertEqual(Filler(BOUND).parts((1,) * 500), [1000 * (BOUND - 1), BOUND])

    def test_factor_is_not_put_in_lowest_terms(self):
        self.assertEqual(Filler(1).factor(), (2, 1))
        self.assertEqual(Filler(6).factor(), (12, 6))

    def test_five_hundred_opened_bags(self):
        for room, size in ((1, 1), (3, 2), (BOUND, BOUND), (BOUND, BOUND // 2 + 1)):
            rule = Filler(room)
            self.assertEqual([rule.pay(size) for wish in range(500)], [1] * 500)
            self.assertEqual((rule.loads(), rule.state(), rule.paid()), ([size] * 500, (size,) * 500, 500))
            self.assertIs(rule.world.is_state(rule.state()), True)
            self.assertEqual(rule.parts(rule.state()), [1000 * (room - size), size])
        rule = Filler(BOUND)
        self.assertEqual([rule.pay(1) for wish in range(500)], [1] + [0] * 499)
        self.assertEqual(rule.loads(), [500])

    def test_a_wish_past_the_five_hundredth_is_not_refused(self):
        rule = Filler(3)
        for wish in range(500):
            rule.pay(2)
        self.check_pays(rule, 2, 1, [2] * 501)
        self.check_pays(rule, 1, 0, [2] * 500 + [3])

    def test_lists_are_ones_own(self):
        for ask in (lambda rule: rule.loads(), lambda rule: rule.parts((1, 2))):
            check_own_lists(self, lambda: Filler(10), (), 4, ask)
            check_own_lists(self, lambda: Filler(10), (4, 5), 1, ask)
            check_own_lists(self, lambda: Filler(10), (4, 5), 2, ask)

    def test_asked_again(self):
        check_asked_again(self, Filler(5), (3, 2, 1, 5, 2), ((), (1,), (5,), (2, 3)))

    def test_the_promise_over_every_step_of_few(self):
        for room, most in ((1, 3), (2, 3), (3, 2), (4, 2)):
            states = states_among(room, most)
            for row in product(range(1, room + 1), repeat=3):
                check_row(self, Filler(room), row, states)

    def test_the_promise_over_rows(self):
        dice = Random(14)
        for room in (5, 30, BOUND):
            for turn in range(5):
                rule, other = Filler(room), ()
                for wish in range(30):
                    size = dice.randint(1, dice.choice((room, room // 5)))
                    states = [other] + [after for after, price in rule.world.moves(other, size)]
                    check_row(self, rule, [size], states)
                    other = dice.choice(states[1:])

    def test_the_promise_up_to_five_hundred_bags(self):
        rule = Filler(4)
        for many in range(500):
            check_row(self, rule, [3], [(3,) * many, (3,) * (many + 1)])

    def test_no_start(self):
        for thing in NO_NUMBERS + NO_AMOUNTS + [0]:
            check_refusal(self, NoState, Filler, thing)

    def test_no_wish(self):
        for told in ((), (4, 7, 2)):
            check_no_wishes(self, lambda: Filler(10), told, NO_NUMBERS + NO_AMOUNTS + [0, 11], (1, 5, 10), ((), (3, 9)))


if __name__ == "__main__":
    unittest.main()
