import unittest

from helper import face_of
from lateknow.bags import Bags, Filler
from lateknow.hire import Buyer, Hire
from lateknow.line import Both, Line, Nearest
from lateknow.shelf import Front, Shelf
from lateknow.stores import Keeper, Store
from lateknow.ways import Changer, Ways
from lateknow.worlds import Bound, Rule, World


class BasesTest(unittest.TestCase):
    def test_worlds_stand_under_world(self):
        for kind in (Hire, Line, Shelf, Ways, Store, Bags):
            self.assertTrue(issubclass(kind, World))

    def test_rules_stand_under_their_bases(self):
        self.assertTrue(issubclass(Bound, Rule))
        for kind in (Buyer, Both, Front, Changer, Keeper, Filler):
            self.assertTrue(issubclass(kind, Bound))
        self.assertTrue(issubclass(Nearest, Rule))

    def test_bases_have_the_methods(self):
        for name in ("is_state", "is_wish", "price", "moves"):
            self.assertTrue(callable(getattr(World, name)))
        for name in ("state", "pay", "paid"):
            self.assertTrue(callable(getattr(Rule, name)))
        for name in ("factor", "parts", "height"):
            self.assertTrue(callable(getattr(Bound, name)))
            self.assertFalse(hasattr(Rule, name))

    def test_field_world(self):
        self.assertIs(Buyer(3).world.__class__, Hire)
        self.assertIs(Both((1, 2)).world.__class__, Line)
        self.assertIs(Nearest((1, 2)).world.__class__, Line)
        self.assertIs(Front(("a", "b")).world.__class__, Shelf)
        self.assertIs(Changer(2, 5).world.__class__, Ways)
        self.assertIs(Keeper(("a", "b")).world.__class__, Store)
        self.assertIs(Filler(5).world.__class__, Bags)

    def test_rules_do_not_share_what_they_keep(self):
        makers = ((lambda: Buyer(5), 2), (lambda: Both((0, 9)), 4), (lambda: Nearest((0, 9)), 4),
                  (lambda: Front(("a", "b")), "b"), (lambda: Changer(2, 1), (5, 1)), (lambda: Keeper(("a", "b")), "c"),
                  (lambda: Filler(5), 3))
        for make, wish in makers:
            first, second = make(), make()
            started = face_of(second, [first.state()])
            self.assertGreater(first.pay(wish), 0)
            self.assertEqual(face_of(second, [started[0]]), started)
            self.assertEqual(face_of(make(), [started[0]]), started)

    def test_worlds_and_rules_of_other_sizes_side_by_side(self):
        small, great = Hire(2), Hire(9)
        self.assertEqual((small.price(0, 1, 1), great.price(0, 1, 1)), (2, 9))
        one, two = Both((0,)), Both((0, 5))
        self.assertEqual((one.factor(), two.factor()), ((1, 1), (2, 1)))
        cheap, dear = Ways(2, 1), Ways(2, 9)
        self.assertEqual((cheap.price(0, (4, 4), 1), dear.price(0, (4, 4), 1)), (5, 13))
        low, high = Bags(3), Bags(4)
        self.assertEqual((low.price((2,), 2, (4,)), high.price((2,), 2, (4,))), (None, 0))


if __name__ == "__main__":
    unittest.main()
