"""What is promised over the whole program: every rule with a factor, against any way of a hindsight one."""

import unittest
from itertools import product
from random import Random

from helper import BOUND, check_refusal
from lateknow.bags import Filler
from lateknow.errors import NoWish
from lateknow.hire import Buyer
from lateknow.least import best, table, way_price
from lateknow.line import Both, Nearest
from lateknow.shelf import Front
from lateknow.stores import Keeper
from lateknow.ways import Changer

FOUR = ("a", "b", "c", "d")
EIGHT = FOUR + ("e", "f", "g", "h")


def few():
    """Makers of rules over small worlds, each with wishes."""
    return [
        (lambda: Buyer(1), (0, 1, 2)), (lambda: Buyer(3), (0, 1, 2, 4)),
        (lambda: Both((0,)), (-1, 0, 2)), (lambda: Both((0, 3)), (-1, 1, 2, 5)),
        (lambda: Both((0, 0, 4)), (-2, 1, 2, 3)),
        (lambda: Front(("b",)), ("b",)), (lambda: Front(("c", "a", "b")), ("a", "b", "c")),
        (lambda: Front(FOUR), FOUR),
        (lambda: Changer(1, 5), ((0,), (3,))), (lambda: Changer(2, 0, 1), ((0, 1), (2, 0), (1, 1))),
        (lambda: Changer(3, 2, 1), ((0, 3, 0), (1, 0, 5), (4, 4, 0), (9, 9, 9))),
        (lambda: Keeper(("a",)), ("a", "b")), (lambda: Keeper(("b", "a")), FOUR),
        (lambda: Keeper(("c", "a", "b")), FOUR),
        (lambda: Filler(1), (1,)), (lambda: Filler(2), (1, 2)), (lambda: Filler(7), (1, 3, 4, 7)),
    ]


def great():
    """Makers of rules over the greatest worlds, each with one that picks a wish, and one that picks a state behind."""
    half = BOUND // 2
    names = EIGHT + ("i", "j")

    def place(dice):
        return dice.choice((-BOUND, BOUND, 0, dice.randint(-BOUND, BOUND), dice.randint(-9, 9)))

    def order(dice, before, wish):
        return tuple(dice.sample(EIGHT, 8))

    def pages(dice, before, wish):
        return tuple(sorted(dice.sample([name for name in names if name != wish], 7) + [wish]))

    def fetchers(dice, before, wish):
        return tuple(sorted([place(dice) for fetcher in range(5)] + [wish]))

    return [
        (lambda: Buyer(BOUND), lambda dice: dice.choice((0, 1, BOUND // 30)), lambda dice, before, wish: max(
            before, dice.choice((0, 0, 0, 1)))),
        (lambda: Both((-BOUND, -5, 0, 0, 7, BOUND)), place, fetchers),
        (lambda: Front(EIGHT), lambda dice: dice.choice(EIGHT), order),
        (lambda: Changer(8, half, 3), lambda dice: tuple(dice.choice((0, 1, half, BOUND)) for way in range(8)),
         lambda dice, before, wish: dice.randrange(8)),
        (lambda: Keeper(EIGHT), lambda dice: dice.choice(names), pages),
        (lambda: Filler(BOUND), lambda dice: dice.choice((1, half, half + 1, dice.randint(1, BOUND))),
         lambda dice, before, wish: dice.choice(Filler(BOUND).world.moves(before, wish))[0]),
    ]


class PromiseTest(unittest.TestCase):
    def test_over_all_wishes_against_the_least(self):
        for make, wishes in few():
            for many in (0, 1, 2, 3, 4):
                for row in product(wishes, repeat=many):
                    rule = make()
                    begin, stood = rule.height(rule.state()), rule.state()
                    top, bottom = rule.factor()
                    for wish in row:
                        rule.pay(wish)
                    least, way = best(rule.world, stood, list(row))
                    self.assertLessEqual(bottom * rule.paid(), top * least + begin)
                    self.assertLessEqual(least, rule.paid())
                    self.assertEqual(way_price(rule.world, stood, list(row), way), least)

    def test_over_all_wishes_against_every_state_of_the_table(self):
        dice = Random(3)
        for make, wishes in few():
            rule = make()
            begin, row = rule.height(rule.state()), [dice.choice(wishes) for wish in range(6)]
            top, bottom = rule.factor()
            for told, sums in zip([None] + row, table(rule.world, rule.state(), row)):
                if told is not None:
                    rule.pay(told)
                for state, paid in sums:
                    self.assertLessEqual(bottom * rule.paid() + rule.height(state), top * paid + begin)

    def test_over_every_step_against_a_way_that_goes_anywhere(self):
        dice = Random(33)
        for make, pick_wish, pick_state in great():
            rule = make()
            start = before = rule.state()
            begin = height = rule.height(before)
            top, bottom = rule.factor()
            wishes, way = [], []
            for turn in range(120):
                wish = pick_wish(dice)
                after = pick_state(dice, before, wish)
                price = rule.world.price(before, wish, after)
                cost = rule.pay(wish)
                behind = rule.height(after)
                self.assertGreaterEqual(behind, 0)
                self.assertLessEqual(bottom * cost + behind - height, top * price)
                wishes.append(wish)
                way.append(after)
                before, height = after, behind
            plan = way_price(rule.world, start, wishes, way)
            self.assertLessEqual(bottom * rule.paid() + height, top * plan + begin)

    def test_a_rule_is_itself_a_way(self):
        makers = few() + [(lambda: Nearest((0, 5)), (-1, 2, 3, 9))]
        for make, wishes in makers:
            rule = make()
            stood, way = rule.state(), []
            for wish in wishes * 2:
                rule.pay(wish)
                way.append(rule.state())
            self.assertEqual(way_price(rule.world, stood, list(wishes * 2), way), rule.paid())
            self.assertLessEqual(best(rule.world, stood, list(wishes * 2))[0], rule.paid())

    def test_a_refusal_leaves_what_later_steps_pay(self):
        for make, wishes in few():
            rule, twin = make(), make()
            for wish in wishes * 2:
                check_refusal(self, NoWish, rule.pay, None)
                check_refusal(self, NoWish, rule.pay, [wish])
                self.assertEqual(rule.pay(wish), twin.pay(wish))
            self.assertEqual((rule.state(), rule.paid()), (twin.state(), twin.paid()))

    def test_worlds_that_were_walked_are_as_they_were(self):
        for make, wishes in few():
            rule = make()
            face = (rule.state(), rule.paid(), rule.parts(rule.state()))
            row = list(wishes)
            first = table(rule.world, rule.state(), row)
            best(rule.world, rule.state(), row)
            self.assertEqual((rule.state(), rule.paid(), rule.parts(rule.state())), face)
            for wish in row:
                rule.pay(wish)
            self.assertEqual(table(rule.world, face[0], row), first)


if __name__ == "__main__":
    unittest.main()
