import unittest
from itertools import combinations, combinations_with_replacement, product
from random import Random

from helper import (BOUND, check_enough_moves, check_moves, check_no_wishes, check_refusal, check_row,
                    things_of_no_kind, tuples_of_no_kind)
from lateknow.errors import NoState
from lateknow.line import Both, Line, Nearest
from lateknow.worlds import Bound

NO_PLACES = [BOUND + 1, -BOUND - 1, 10 * BOUND, -(10 ** 30), 10 ** 30]
NO_WISHES = things_of_no_kind() + [(), (0,), (1,), (0, 1)] + tuples_of_no_kind() + NO_PLACES
NO_STATES = (things_of_no_kind() + tuples_of_no_kind() + [0, 1, -1, 5, BOUND, ()] + NO_PLACES
             + [(place,) for place in NO_PLACES]
             + [(-BOUND - 1, 0), (0, BOUND + 1), (0, 1, BOUND + 1)]
             + [(1, 0), (0, 2, 1), (3, 1, 2), (0, 0, -1), (BOUND, -BOUND), (6, 5, 4, 3, 2, 1)])
STATES = [(0,), (-BOUND,), (BOUND,), (0, 0), (-1, 5), (-BOUND, BOUND), (2, 2, 2), (-3, -3, 8),
          (1, 2, 3, 4), (0, 0, 1, 1, 1), (1, 2, 3, 4, 5, 6), (7,) * 6, (-BOUND,) * 3 + (BOUND,) * 3]


def states_among(places, many):
    return list(combinations_with_replacement(places, many))


class LineTest(unittest.TestCase):
    def test_states(self):
        for state in STATES:
            for many in range(1, 7):
                self.assertIs(Line(many).is_state(state), len(state) == many)

    def test_no_states(self):
        for many, thing in product(range(1, 7), NO_STATES):
            self.assertIs(Line(many).is_state(thing), False)

    def test_wishes_are_places(self):
        for many in range(1, 7):
            for wish in (0, 1, -1, 17, -BOUND, BOUND, BOUND - 1):
                self.assertIs(Line(many).is_wish(wish), True)
            for thing in NO_WISHES:
                self.assertIs(Line(many).is_wish(thing), False)

    def test_prices(self):
        self.assertEqual(Line(1).price((3,), -4, (-4,)), 7)
        self.assertEqual(Line(1).price((3,), 3, (3,)), 0)
        self.assertIsNone(Line(1).price((3,), 4, (3,)))
        self.assertEqual(Line(2).price((0, 10), 4, (4, 10)), 4)
        self.assertEqual(Line(2).price((0, 10), 4, (0, 4)), 6)
        self.assertEqual(Line(2).price((0, 10), 12, (10, 12)), 12)
        self.assertEqual(Line(3).price((0, 0, 5), 1, (-1, 1, 9)), 6)
        self.assertIsNone(Line(3).price((0, 1, 5), 1, (0, 0, 5)))
        self.assertEqual(Line(6).price((-BOUND,) * 6, BOUND, (BOUND,) * 6), 12 * BOUND)
        self.assertEqual(Line(6).price((1, 2, 3, 4, 5, 6), 0, (0, 0, 0, 0, 0, 0)), 21)

    def test_moves_where_the_state_has_the_wish(self):
        for state in STATES:
            for wish in state:
                self.assertEqual(Line(len(state)).moves(state, wish), [(state, 0)])

    def test_moves_elsewhere(self):
        self.assertEqual(Line(1).moves((3,), 5), [((5,), 2)])
        self.assertEqual(Line(2).moves((0, 10), 4), [((0, 4), 6), ((4, 10), 4)])
        self.assertEqual(Line(2).moves((4, 4), 9), [((4, 9), 5)])
        self.assertEqual(Line(3).moves((0, 0, 7), -2), [((-2, 0, 0), 9), ((-2, 0, 7), 2)])
        self.assertEqual(Line(3).moves((1, 5, 9), 6), [((1, 5, 6), 3), ((1, 6, 9), 1), ((5, 6, 9), 5)])
        self.assertEqual(Line(6).moves((-BOUND,) * 6, BOUND), [((-BOUND,) * 5 + (BOUND,), 2 * BOUND)])

    def test_moves_hold_together(self):
        for many in (1, 2, 3, 4):
            for state, wish in product(states_among(range(0, 7, 2), many), range(-1, 8)):
                world = Line(many)
                check_moves(self, world, state, wish)
                if wish not in state:
                    gone = [tuple(sorted(rest + (wish,))) for rest in combinations(state, many - 1)]
                    self.assertEqual([after for after, price in world.moves(state, wish)], sorted(set(gone)))

    def test_moves_are_enough(self):
        dice = Random(3)
        for many, turn in product((1, 2, 3), range(20)):
            states = states_among(range(6), many)
            row = [dice.randrange(6) for wish in range(6)]
            check_enough_moves(self, Line(many), dice.choice(states), row, states)


class BothTest(unittest.TestCase):
    def check_goes(self, start, wish, after, cost):
        rule = Both(start)
        self.assertEqual((rule.pay(wish), rule.state(), rule.paid()), (cost, after, cost))

    def test_begin(self):
        for state in STATES:
            rule = Both(state)
            self.assertEqual((rule.state(), rule.paid()), (state, 0))
            self.assertEqual(rule.factor(), (len(state), 1))
            self.assertIs(rule.world.is_state(state), True)

    def test_a_wish_at_a_fetcher(self):
        for state in STATES:
            for wish in state:
                self.check_goes(state, wish, state, 0)

    def test_a_wish_outside_of_all(self):
        self.check_goes((3,), -4, (-4,), 7)
        self.check_goes((3,), 4, (4,), 1)
        self.check_goes((0, 10), 13, (0, 13), 3)
        self.check_goes((0, 10), -13, (-13, 10), 13)
        self.check_goes((4, 4, 4), 6, (4, 4, 6), 2)
        self.check_goes((4, 4, 4), 1, (1, 4, 4), 3)
        self.check_goes((0,) * 6, BOUND, (0,) * 5 + (BOUND,), BOUND)
        self.check_goes((0,) * 6, -BOUND, (-BOUND,) + (0,) * 5, BOUND)
        self.check_goes((-BOUND,), BOUND, (BOUND,), 2 * BOUND)

    def test_a_wish_amid_two(self):
        self.check_goes((0, 10), 3, (3, 7), 6)
        self.check_goes((0, 10), 9, (1, 9), 2)
        self.check_goes((0, 10), 5, (5, 5), 10)
        self.check_goes((-BOUND, BOUND), 0, (0, 0), 2 * BOUND)
        self.check_goes((-BOUND, BOUND), BOUND - 1, (1 - BOUND, BOUND - 1), 2)
        self.check_goes((-9, 0, 10, 30), 4, (-9, 4, 6, 30), 8)

    def test_several_at_one_place_amid(self):
        self.check_goes((0, 0, 10, 10), 3, (0, 3, 7, 10), 6)
        self.check_goes((0, 0, 0, 8, 8, 8), 4, (0, 0, 4, 4, 8, 8), 8)

    def test_row_of_wishes(self):
        rule = Both((0, 10))
        self.assertEqual([rule.pay(wish) for wish in (3, 5, 5, 20, 12)], [6, 4, 0, 15, 14])
        self.assertEqual((rule.state(), rule.paid()), ((12, 13), 39))

    def test_parts(self):
        rule = Both((0, 4, 10))
        self.assertEqual(rule.parts((0, 4, 10)), [0, 20])
        self.assertEqual(rule.parts((-1, 6, 6)), [21, 20])
        self.assertEqual(rule.height((-1, 6, 6)), 41)
        self.assertEqual(rule.pay(5), 2)
        self.assertEqual(rule.parts((0, 4, 10)), [6, 18])
        self.assertEqual(Both((5,)).parts((-5,)), [10, 0])
        self.assertEqual(Both((1, 2, 3, 4, 5, 6)).parts((0,) * 6), [126, 35])
        self.assertEqual(Both((-BOUND,) * 3 + (BOUND,) * 3).parts((0,) * 6), [36 * BOUND, 18 * BOUND])

    def test_lists_are_ones_own(self):
        rule = Both((0, 4))
        mine = rule.parts((1, 1))
        mine.append(9)
        mine[0] = -1
        self.assertEqual((rule.parts((1, 1)), rule.height((1, 1))), ([8, 4], 12))
        kept = rule.parts((1, 1))
        rule.pay(3)
        self.assertEqual(kept, [8, 4])

    def test_asked_again(self):
        rule = Both((0, 4))
        rule.pay(1)
        for turn in range(3):
            self.assertEqual((rule.state(), rule.paid(), rule.factor()), ((1, 3), 2, (2, 1)))
            self.assertEqual((rule.parts((0, 4)), rule.height((0, 4))), ([4, 2], 6))

    def test_the_promise_over_every_step_of_few(self):
        for many, places in ((1, range(-3, 4)), (2, range(5)), (3, range(4))):
            states = states_among(places, many)
            for start, wish in product(states, places):
                check_row(self, Both(start), (wish,), states)

    def test_the_promise_over_rows(self):
        dice = Random(11)
        for many, reach in product(range(1, 7), (6, 100, BOUND)):
            for turn in range(3):
                row = [dice.randint(-reach, reach) for wish in range(8)] + [-reach, reach]
                states = [tuple(sorted(dice.choices(row, k=many))) for state in range(30)]
                check_row(self, Both(states[0]), row, states)

    def test_no_start(self):
        for thing in NO_STATES + [(0,) * 7, (1, 2, 3, 4, 5, 6, 7), (0,) * 100]:
            check_refusal(self, NoState, Both, thing)

    def test_no_wish(self):
        for told in ((), (3, 30)):
            check_no_wishes(self, lambda: Both((0, 10)), told, NO_WISHES, (7, 1, 1, -4), STATES[3:6])


class NearestTest(unittest.TestCase):
    def check_goes(self, start, wish, after, cost):
        rule = Nearest(start)
        self.assertEqual((rule.pay(wish), rule.state(), rule.paid()), (cost, after, cost))

    def test_begin(self):
        for state in STATES:
            rule = Nearest(state)
            self.assertEqual((rule.state(), rule.paid()), (state, 0))
            self.assertIs(rule.world.is_state(state), True)

    def test_a_wish_at_a_fetcher(self):
        for state in STATES:
            for wish in state:
                self.check_goes(state, wish, state, 0)

    def test_the_nearest_goes(self):
        self.check_goes((3,), -4, (-4,), 7)
        self.check_goes((0, 10), 3, (3, 10), 3)
        self.check_goes((0, 10), 8, (0, 8), 2)
        self.check_goes((0, 10), 13, (0, 13), 3)
        self.check_goes((0, 10), -13, (-13, 10), 13)
        self.check_goes((-9, 0, 10, 30), 19, (-9, 0, 19, 30), 9)
        self.check_goes((0,) * 6, -BOUND, (-BOUND,) + (0,) * 5, BOUND)

    def test_of_two_equally_near_the_left_one(self):
        self.check_goes((0, 10), 5, (5, 10), 5)
        self.check_goes((0, 0, 10, 10), 5, (0, 5, 10, 10), 5)
        self.check_goes((-6, -4, -2), -3, (-6, -3, -2), 1)
        self.check_goes((-BOUND, BOUND), 0, (0, BOUND), BOUND)

    def test_row_of_wishes(self):
        rule = Nearest((0, 10))
        self.assertEqual([rule.pay(wish) for wish in (4, 7, 4, 11, 5)], [4, 3, 3, 1, 1])
        self.assertEqual((rule.state(), rule.paid()), ((5, 11), 12))

    def test_pays_the_price_of_its_world(self):
        dice = Random(5)
        for many in range(1, 7):
            rule = Nearest(tuple(sorted(dice.choices(range(20), k=many))))
            for turn in range(30):
                before, wish, spent = rule.state(), dice.randrange(20), rule.paid()
                nearest = min([abs(place - wish) for place in before])
                self.assertEqual(rule.pay(wish), nearest)
                self.assertEqual(rule.world.price(before, wish, rule.state()), nearest)
                self.assertEqual(rule.paid(), spent + nearest)

    def test_has_no_factor(self):
        self.assertNotIsInstance(Nearest((0,)), Bound)
        for name in ("factor", "parts", "height"):
            self.assertFalse(hasattr(Nearest((0,)), name))

    def test_no_start(self):
        for thing in NO_STATES + [(0,) * 7, (1, 2, 3, 4, 5, 6, 7), (0,) * 100]:
            check_refusal(self, NoState, Nearest, thing)

    def test_no_wish(self):
        for told in ((), (3, 30)):
            check_no_wishes(self, lambda: Nearest((0, 10)), told, NO_WISHES, (7, 1, 1, -4), ())


if __name__ == "__main__":
    unittest.main()
