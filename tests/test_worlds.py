import unittest

from lateknow.hire import Buyer, Hire
from lateknow.line import Both, Line, Nearest
from lateknow.worlds import Bound, Rule, World


class BasesTest(unittest.TestCase):
    def test_worlds_stand_under_world(self):
        for kind in (Hire, Line):
            self.assertTrue(issubclass(kind, World))

    def test_rules_stand_under_their_bases(self):
        self.assertTrue(issubclass(Bound, Rule))
        for kind in (Buyer, Both):
            self.assertTrue(issubclass(kind, Bound))
        self.assertTrue(issubclass(Nearest, Rule))

    def test_bases_have_the_methods(self):
        for name in ("is_state", "is_wish", "price", "moves"):
            self.assertTrue(callable(getattr(World, name)))
        for name in ("state", "pay", "paid"):
            self.assertTrue(callable(getattr(Rule, name)))
        for name in ("factor", "parts", "height"):
            self.assertTrue(callable(getattr(Bound, name)))
            self.assertFalse(hasattr(Rule, name))

    def test_field_world(self):
        self.assertIs(Buyer(3).world.__class__, Hire)
        self.assertIs(Both((1, 2)).world.__class__, Line)
        self.assertIs(Nearest((1, 2)).world.__class__, Line)

    def test_rules_do_not_share_what_they_keep(self):
        for make, wish in ((lambda: Buyer(5), 2), (lambda: Both((0, 9)), 4), (lambda: Nearest((0, 9)), 4)):
            first, second = make(), make()
            started = second.state()
            self.assertGreater(first.pay(wish), 0)
            self.assertEqual((second.state(), second.paid()), (started, 0))

    def test_worlds_and_rules_of_other_sizes_side_by_side(self):
        small, great = Hire(2), Hire(9)
        self.assertEqual((small.price(0, 1, 1), great.price(0, 1, 1)), (2, 9))
        one, two = Both((0,)), Both((0, 5))
        self.assertEqual((one.factor(), two.factor()), ((1, 1), (2, 1)))


if __name__ == "__main__":
    unittest.main()
