import unittest

from helper import BOUND, check_row
from lateknow.bags import Filler
from lateknow.enemies import (enemy_of_both, enemy_of_buyer, enemy_of_changer, enemy_of_filler, enemy_of_front,
                              enemy_of_keeper, enemy_of_nearest)
from lateknow.hire import Buyer
from lateknow.least import best, way_price
from lateknow.line import Both, Nearest
from lateknow.shelf import Front
from lateknow.stores import Keeper
from lateknow.ways import Changer

MANIES = (1, 2, 3, 4, 5, 8, 9, 10, 17, 50, 99, 100)


class EnemiesTest(unittest.TestCase):
    def check_kinds(self, made, world, begin, many):
        """What holds of each enemy: a start, and a row of wishes and a way of as many states, from that start."""
        self.assertEqual((made.__class__, len(made)), (tuple, 3))
        start, wishes, way = made
        self.assertEqual((wishes.__class__, way.__class__), (list, list))
        self.assertEqual((len(wishes), len(way)), (many, many))
        self.assertIs(world.is_state(begin), True)
        self.assertTrue(all(world.is_wish(wish) for wish in wishes))
        self.assertTrue(all(world.is_state(state) for state in way))

    def pay_and_plan(self, made, rule, many):
        """All that the rule pays, and all that the way pays; the rule is one that stands at the start."""
        start, wishes, way = made
        begin = rule.state()
        self.check_kinds(made, rule.world, begin, many)
        plan = way_price(rule.world, begin, wishes, way)
        self.assertIsNotNone(plan)
        pay = sum([rule.pay(wish) for wish in wishes])
        self.assertEqual(rule.paid(), pay)
        return pay, plan

    def check_both(self, k, gap, many):
        made = enemy_of_both(k, gap, many)
        self.assertEqual(made[0], tuple(range(0, k * gap, gap)))
        pay, plan = self.pay_and_plan(made, Both(made[0]), many)
        self.assertGreaterEqual(pay, many * gap)
        self.assertLessEqual(k * plan, pay + gap * k * (k + 1) // 2)

    def test_of_both(self):
        for k in range(1, 7):
            for gap in (1, 2, 3, 10, 10 ** 9 - 1, 10 ** 9):
                for many in MANIES:
                    self.check_both(k, gap, many)

    def test_of_both_with_every_many(self):
        for k in (1, 2, 5, 6):
            for many in range(1, 101):
                self.check_both(k, 7, many)

    def test_of_nearest(self):
        for gap in (3, 4, 5, 10, 10 ** 9 - 1, 10 ** 9):
            for many in range(1, 101):
                made = enemy_of_nearest(gap, many)
                self.assertEqual(made[0], (0, gap))
                pay, plan = self.pay_and_plan(made, Nearest(made[0]), many)
                self.assertEqual(pay, many)
                self.assertLessEqual(plan, gap - 1)

    def test_of_front(self):
        for m in range(1, 9):
            for many in range(1, 101):
                made = enemy_of_front(m, many)
                self.assertEqual((made[0].__class__, len(made[0])), (tuple, m))
                pay, plan = self.pay_and_plan(made, Front(made[0]), many)
                self.assertEqual(pay, many * m)
                self.assertLessEqual(2 * m * plan, (m + 1) * pay + m ** 3)

    def test_of_buyer(self):
        for whole in (1, 2, 3, 10, 1000, BOUND - 1, BOUND):
            made = enemy_of_buyer(whole)
            self.assertEqual((made[0], made[0].__class__), (0, int))
            self.assertEqual(self.pay_and_plan(made, Buyer(whole), len(made[1])), (2 * whole - 1, whole))
            self.assertEqual(best(Buyer(whole).world, 0, made[1])[0], whole)

    def test_of_changer(self):
        for n in range(1, 9):
            for toll in (1, 2, 3, 7, 30, BOUND - 1, BOUND):
                for many in MANIES:
                    made = enemy_of_changer(n, toll, many)
                    self.assertEqual((made[0], made[0].__class__), (0, int))
                    pay, plan = self.pay_and_plan(made, Changer(n, toll), many)
                    self.assertGreaterEqual(pay, many)
                    self.assertLessEqual((2 * n - 1) * plan, pay + 2 * (n - 1) * toll)

    def test_of_keeper(self):
        for k in range(1, 9):
            for many in MANIES + (k, k + 1, 2 * k + 1):
                made = enemy_of_keeper(k, many)
                self.assertEqual((made[0].__class__, len(made[0])), (tuple, k))
                pay, plan = self.pay_and_plan(made, Keeper(made[0]), many)
                self.assertEqual(pay, many)
                self.assertLessEqual(k * plan, many + k - 1)

    def test_of_filler(self):
        for room in tuple(range(2, 12)) + (100, 101, BOUND - 1, BOUND):
            small = room + 1 - 2 * (room // 2)
            fit = room // small
            for many in MANIES:
                made = enemy_of_filler(room, many)
                self.assertEqual(made[0], ())
                pay, plan = self.pay_and_plan(made, Filler(room), 2 * many)
                self.assertEqual(pay, many)
                self.assertLessEqual(2 * fit * plan, (fit + 2) * many + 3 * fit)


def makers():
    """Each enemy with small and with the greatest numbers, and a new rule for a start that it told."""
    return [
        (lambda: enemy_of_both(1, 1, 1), Both), (lambda: enemy_of_both(3, 5, 40), Both),
        (lambda: enemy_of_both(6, 10 ** 9, 100), Both),
        (lambda: enemy_of_nearest(3, 1), Nearest), (lambda: enemy_of_nearest(10 ** 9, 100), Nearest),
        (lambda: enemy_of_front(1, 1), Front), (lambda: enemy_of_front(4, 30), Front),
        (lambda: enemy_of_front(8, 100), Front),
        (lambda: enemy_of_buyer(1), lambda start: Buyer(1)),
        (lambda: enemy_of_buyer(BOUND), lambda start: Buyer(BOUND)),
        (lambda: enemy_of_changer(1, 1, 1), lambda start: Changer(1, 1, start)),
        (lambda: enemy_of_changer(4, 3, 60), lambda start: Changer(4, 3, start)),
        (lambda: enemy_of_changer(8, BOUND, 100), lambda start: Changer(8, BOUND, start)),
        (lambda: enemy_of_keeper(1, 1), Keeper), (lambda: enemy_of_keeper(8, 100), Keeper),
        (lambda: enemy_of_filler(2, 1), lambda start: Filler(2)),
        (lambda: enemy_of_filler(9, 20), lambda start: Filler(9)),
        (lambda: enemy_of_filler(BOUND, 100), lambda start: Filler(BOUND)),
    ]


class OwnTest(unittest.TestCase):
    def test_lists_are_ones_own_and_who_asks_again_is_told_the_same(self):
        for make, rule_at in makers():
            first, second = make(), make()
            self.assertEqual(first, second)
            first[1][:] = ["changed"]
            first[2][:] = ["changed"]
            self.assertEqual(make(), second)

    def test_no_rule_that_pays_later_changes_what_was_told(self):
        for make, rule_at in makers():
            made, twin = make(), make()
            rule = rule_at(made[0])
            for wish in made[1]:
                rule.pay(wish)
            self.assertEqual(made, twin)

    def test_the_promise_holds_for_these_rows_too(self):
        for make, rule_at in makers():
            start, wishes, way = make()
            rule = rule_at(start)
            if rule_at is Nearest:
                continue
            top, bottom = rule.factor()
            begin, before = rule.height(rule.state()), rule.state()
            plan = way_price(rule.world, rule.state(), wishes, way)
            for wish, after in zip(wishes, way):
                check_row(self, rule, [wish], [before, after])
                before = after
            self.assertLessEqual(bottom * rule.paid(), top * plan + begin)


if __name__ == "__main__":
    unittest.main()
