import unittest
from itertools import combinations, combinations_with_replacement, permutations, product
from random import Random

from helper import BOUND, check_refusal, least_over
from lateknow.bags import Bags
from lateknow.errors import TooGreat
from lateknow.hire import Hire
from lateknow.least import best, table, way_price
from lateknow.line import Line
from lateknow.shelf import Shelf
from lateknow.stores import Store
from lateknow.ways import Ways
from lateknow.worlds import World

EIGHT = ("a", "b", "c", "d", "e", "f", "g", "h")


class Fan(World):
    """A world for the tests: a wish is a tuple of prices, and from each state one goes to their numbers."""

    def price(self, before, wish, after):
        return wish[after]

    def moves(self, before, wish):
        return list(enumerate(wish))


def few_states_worlds():
    """Worlds with few states, or few that matter: the world, starts, wishes and states enough for all ways."""
    letters = ("a", "b", "c", "d")
    return [
        (Hire(3), [0, 1], [0, 1, 2, 5], [0, 1]),
        (Line(1), [(0,), (2,)], [0, 1, 2], [(0,), (1,), (2,)]),
        (Line(2), [(0, 0), (0, 2), (1, 2)], [-1, 0, 1, 2], list(combinations_with_replacement(range(-1, 3), 2))),
        (Shelf(("c", "a", "b")), [("c", "a", "b"), ("a", "b", "c")], ["a", "b", "c"], list(permutations("abc"))),
        (Ways(3, 2), [0, 2], [(0, 1, 5), (3, 0, 0), (1, 1, 1), (4, 0, 9)], [0, 1, 2]),
        (Ways(2, 0), [1], [(0, 1), (2, 0)], [0, 1]),
        (Store(1), [("b",)], list(letters), list(combinations(letters, 1))),
        (Store(2), [("a", "b"), ("b", "d")], list(letters), list(combinations(letters, 2))),
        (Bags(3), [(), (1, 1), (3,)], [1, 2, 3], states_of_bags(3, 5)),
        (Bags(5), [(), (2, 4)], [1, 2, 3, 4], states_of_bags(5, 5)),
    ]


def states_of_bags(room, most):
    return [state for many in range(most + 1) for state in combinations_with_replacement(range(1, room + 1), many)]


def table_by_ways(world, start, wishes):
    """The table, read off all ways by moves, one by one."""
    ways, rows = [((start,), 0)], [[(start, 0)]]
    for wish in wishes:
        ways = [(way + (after,), paid + price) for way, paid in ways for after, price in world.moves(way[-1], wish)]
        states = sorted(set(way[-1] for way, paid in ways))
        rows.append([(state, min(paid for way, paid in ways if way[-1] == state)) for state in states])
    return rows


class TableTest(unittest.TestCase):
    def test_no_wishes(self):
        for world, starts, wishes, states in few_states_worlds():
            for start in starts:
                self.assertEqual(table(world, start, []), [[(start, 0)]])
        self.assertEqual(table(Shelf(EIGHT), EIGHT, []), [[(EIGHT, 0)]])

    def test_rows_of_wishes(self):
        self.assertEqual(table(Hire(3), 0, [2, 2]), [[(0, 0)], [(0, 2), (1, 3)], [(0, 4), (1, 3)]])
        self.assertEqual(table(Hire(3), 1, [2]), [[(1, 0)], [(1, 0)]])
        self.assertEqual(table(Line(2), (0, 10), [3, 3, -2]), [
            [((0, 10), 0)],
            [((0, 3), 7), ((3, 10), 3)],
            [((0, 3), 7), ((3, 10), 3)],
            [((-2, 0), 12), ((-2, 3), 9), ((-2, 10), 8)],
        ])
        self.assertEqual(table(Shelf(("b", "a")), ("b", "a"), ["a", "a"]), [
            [(("b", "a"), 0)],
            [(("a", "b"), 2), (("b", "a"), 2)],
            [(("a", "b"), 3), (("b", "a"), 4)],
        ])
        self.assertEqual(table(Ways(2, 3), 1, [(0, 5), (9, 1)]), [[(1, 0)], [(0, 3), (1, 5)], [(0, 12), (1, 6)]])
        self.assertEqual(table(Store(2), ("b", "c"), ["a", "c"]), [
            [(("b", "c"), 0)],
            [(("a", "b"), 1), (("a", "c"), 1)],
            [(("a", "c"), 1), (("b", "c"), 2)],
        ])
        self.assertEqual(table(Bags(10), (), [7, 4, 3]), [
            [((), 0)],
            [((7,), 1)],
            [((4, 7), 2)],
            [((3, 4, 7), 3), ((4, 10), 2), ((7, 7), 2)],
        ])

    def test_rows_are_sorted_by_states(self):
        self.assertEqual(table(Bags(9), (1, 8), [1])[1], [((1, 1, 8), 1), ((1, 9), 0), ((2, 8), 0)])
        self.assertEqual(table(Bags(9), (2,), [2, 2])[2], [((2, 2, 2), 2), ((2, 4), 1), ((6,), 0)])
        self.assertEqual(table(Line(2), (-9, 10), [-10])[1], [((-10, -9), 20), ((-10, 10), 1)])
        self.assertEqual(table(Store(2), ("a", "b"), ["aa"])[1], [(("a", "aa"), 1), (("aa", "b"), 1)])
        self.assertEqual(table(Ways(8, 1), 7, [(0,) * 8])[1], [(way, 1) for way in range(7)] + [(7, 0)])

    def test_a_row_has_all_states_to_which_moves_lead_with_the_least_sums(self):
        for world, starts, wishes, states in few_states_worlds():
            for start in starts:
                for row in product(wishes, repeat=3):
                    self.assertEqual(table(world, start, list(row)), table_by_ways(world, start, list(row)))

    def test_kinds(self):
        for world, starts, wishes, states in few_states_worlds():
            rows = table(world, starts[0], wishes)
            self.assertIs(rows.__class__, list)
            self.assertEqual(len(rows), len(wishes) + 1)
            for row in rows:
                self.assertIs(row.__class__, list)
                self.assertTrue(all(pair.__class__ is tuple and len(pair) == 2 for pair in row))
                self.assertTrue(all(world.is_state(state) and least.__class__ is int for state, least in row))

    def test_great_numbers(self):
        self.assertEqual(table(Ways(2, BOUND), 0, [(BOUND, BOUND)] * 500)[-1],
                         [(0, 500 * BOUND), (1, 501 * BOUND)])
        self.assertEqual(table(Line(1), (-BOUND,), [BOUND, -BOUND])[-1], [((-BOUND,), 4 * BOUND)])
        self.assertEqual(table(Hire(BOUND), 0, [BOUND - 1] * 2)[-1], [(0, 2 * BOUND - 2), (1, BOUND)])

    def test_five_hundred_wishes(self):
        self.assertEqual(len(table(Shelf(("a", "b", "c")), ("a", "b", "c"), ["a", "c"] * 250)[-1]), 6)
        self.assertEqual(table(Bags(3), (), [2] * 500)[-1], [((2,) * 500, 500)])
        self.assertEqual(table(Store(8), EIGHT, ["a", "h"] * 250)[-1], [(EIGHT, 0)])


class TooGreatTest(unittest.TestCase):
    def check_too_great(self, world, start, wishes):
        check_refusal(self, TooGreat, table, world, start, wishes)
        check_refusal(self, TooGreat, best, world, start, wishes)

    def test_sixty_states_and_one_more(self):
        for many in (1, 59, 60):
            self.assertEqual(table(Fan(), 0, [(7,) * many])[-1], [(state, 7) for state in range(many)])
            self.assertEqual(best(Fan(), 0, [(7,) * many])[0], 7)
        for many in (61, 62, 100):
            self.check_too_great(Fan(), 0, [(7,) * many])

    def test_sixty_bags_and_one_more(self):
        sixty = tuple(range(10, 600, 10))
        self.assertEqual(len(table(Bags(1000), sixty, [1])[1]), 60)
        self.assertEqual(best(Bags(1000), sixty, [1])[0], 0)
        self.check_too_great(Bags(1000), sixty + (600,), [1])
        # One bag less has room, so there is one state less.
        self.assertEqual(len(table(Bags(600), sixty + (600,), [1])[1]), 60)

    def test_a_row_that_is_too_great_ahead_of_smaller_ones(self):
        self.check_too_great(Fan(), 0, [(1,), (1,) * 61, (1,)])
        self.assertEqual(table(Fan(), 0, [(1,), (1,) * 60, (1,)])[-1], [(0, 3)])

    def test_the_start_counts_for_nothing_later(self):
        self.assertEqual([len(row) for row in table(Fan(), 99, [(0,) * 60, (0,) * 60])], [1, 60, 60])

    def test_states_and_not_moves_are_counted(self):
        # Sixty states with sixty moves each, but all to the same sixty states.
        self.assertEqual(len(table(Fan(), 0, [tuple(range(60))] * 5)[-1]), 60)

    def test_pages(self):
        self.assertEqual([len(row) for row in table(Store(8), EIGHT, ["i", "j"])], [1, 8, 36])
        self.check_too_great(Store(8), EIGHT, ["i", "j", "k"])
        self.check_too_great(Store(8), EIGHT, ["i", "j", "k", "a", "b"])

    def test_fetchers(self):
        places = (0, 100, 200, 300, 400, 500)
        row = [50, 150, 250, 350]
        self.assertEqual([len(row) for row in table(Line(6), places, row[:3])], [1, 6, 21, 56])
        self.check_too_great(Line(6), places, row)

    def test_things(self):
        four, five = EIGHT[:4], EIGHT[:5]
        self.assertEqual([len(row) for row in table(Shelf(four), four, ["d", "a", "c"])], [1, 24, 24, 24])
        self.assertEqual(best(Shelf(five), five, []), (0, []))
        for many in (5, 6, 7, 8):
            self.check_too_great(Shelf(EIGHT[:many]), EIGHT[:many], ["a"])
            self.assertEqual(table(Shelf(EIGHT[:many]), EIGHT[:many], []), [[(EIGHT[:many], 0)]])


class BestTest(unittest.TestCase):
    def check_best(self, world, start, wishes):
        found = best(world, start, wishes)
        self.assertEqual((found.__class__, len(found)), (tuple, 2))
        least, way = found
        self.assertIs(way.__class__, list)
        self.assertEqual(least, min(least for state, least in table(world, start, wishes)[-1]))
        self.assertEqual(len(way), len(wishes))
        self.assertEqual(way_price(world, start, wishes, way), least)
        for before, wish, after in zip([start] + way, wishes, way):
            self.assertIn((after, world.price(before, wish, after)), world.moves(before, wish))
        self.assertEqual(best(world, start, wishes), found)
        return least

    def test_no_wishes(self):
        for world, starts, wishes, states in few_states_worlds():
            for start in starts:
                self.assertEqual(best(world, start, []), (0, []))

    def test_rows_of_wishes(self):
        self.assertEqual(best(Hire(3), 0, [2, 2]), (3, [1, 1]))
        self.assertEqual(best(Hire(3), 0, [1, 1]), (2, [0, 0]))
        self.assertEqual(best(Line(2), (0, 10), [3, 9, 3, 9]), (4, [(3, 10), (3, 9), (3, 9), (3, 9)]))
        self.assertEqual(best(Ways(2, 3), 1, [(0, 9), (0, 9), (9, 0)]), (6, [0, 0, 1]))
        self.assertEqual(best(Shelf(("a", "b")), ("a", "b"), ["b"] * 3), (4, [("b", "a")] * 3))
        self.assertEqual(best(Store(2), ("a", "b"), ["c", "a", "c", "a"]), (1, [("a", "c")] * 4))
        self.assertEqual(best(Bags(10), (), [4, 7, 3, 6]), (2, [(4,), (4, 7), (4, 10), (10, 10)]))

    def test_no_way_pays_less_by_moves_or_not(self):
        for world, starts, wishes, states in few_states_worlds():
            def anywhere(before, wish):
                pairs = [(after, world.price(before, wish, after)) for after in states]
                return [pair for pair in pairs if pair[1] is not None]

            rows = [list(row) for many in (1, 2, 3) for row in product(wishes, repeat=many)]
            for start in starts:
                for row in rows:
                    least = self.check_best(world, start, row)
                    self.assertEqual(least, least_over(world, start, row, anywhere))

    def test_long_rows(self):
        dice = Random(18)
        for world, starts, wishes, states in few_states_worlds():
            for start in starts:
                if not isinstance(world, Bags):
                    self.check_best(world, start, [dice.choice(wishes) for wish in range(60)])
        four = EIGHT[:4]
        self.check_best(Shelf(four), four, [dice.choice(four) for wish in range(30)])
        self.check_best(Bags(BOUND), (), [BOUND // 2] * 100)
        self.check_best(Line(6), (0, 1, 2, 3, 4, 5), [dice.randrange(7) for wish in range(100)])

    def test_of_several_least_ways_one_is_told_and_again_the_same(self):
        cases = ((Line(2), (-5, 5), [0], 5, ([(-5, 0)], [(0, 5)])), (Hire(3), 0, [3], 3, ([0], [1])),
                 (Ways(3, 0), 0, [(1, 1, 1)], 1, ([0], [1], [2])),
                 (Store(2), ("a", "b"), ["c"], 1, ([("a", "c")], [("b", "c")])),
                 (Shelf(("a", "b")), ("a", "b"), ["b"], 2, ([("a", "b")], [("b", "a")])),
                 (Bags(9), (3, 4), [2], 0, ([(3, 6)], [(4, 5)])))
        for world, start, wishes, least, ways in cases:
            found = best(world, start, wishes)
            self.assertEqual(found[0], least)
            self.assertIn(found[1], ways)
            for turn in range(5):
                self.assertEqual(best(world, start, wishes), found)
        # Which of two first states leads to the least is known only at the last wish.
        self.assertEqual(best(Line(2), (-5, 5), [0, 5]), (5, [(0, 5), (0, 5)]))
        self.assertEqual(best(Line(2), (-5, 5), [0, -5]), (5, [(-5, 0), (-5, 0)]))


class WayPriceTest(unittest.TestCase):
    def test_ways(self):
        self.assertEqual(way_price(Hire(3), 0, [2, 1, 2, 9], [0, 0, 1, 1]), 6)
        self.assertEqual(way_price(Line(2), (0, 10), [3, 9], [(0, 3), (3, 9)]), 7 + 9)
        self.assertEqual(way_price(Shelf(("a", "b", "c")), ("a", "b", "c"), ["c", "c"],
                                   [("c", "b", "a"), ("b", "a", "c")]), 3 + 1 + 2 + 3)
        self.assertEqual(way_price(Ways(2, 5), 0, [(1, 2), (3, 4), (9, 9)], [1, 1, 0]), 7 + 4 + 14)
        self.assertEqual(way_price(Store(2), ("a", "b"), ["c", "a"], [("c", "d"), ("a", "b")]), 4)
        self.assertEqual(way_price(Bags(10), (), [4, 6, 5], [(4,), (10,), (5, 10)]), 2)

    def test_no_wishes(self):
        for world, starts, wishes, states in few_states_worlds():
            for start in starts:
                self.assertEqual(way_price(world, start, [], []), 0)

    def test_a_way_that_pays_nothing_may_go(self):
        self.assertEqual(way_price(Hire(3), 0, [0, 0], [0, 0]), 0)
        self.assertEqual(way_price(Hire(3), 1, [5, 5], [1, 1]), 0)

    def test_ways_that_go_where_they_may_not(self):
        self.assertIsNone(way_price(Hire(3), 1, [0], [0]))
        self.assertIsNone(way_price(Hire(3), 0, [2, 2, 2], [1, 0, 0]))
        self.assertIsNone(way_price(Hire(3), 0, [2, 2, 2], [0, 1, 0]))
        self.assertIsNone(way_price(Line(2), (0, 10), [3, 9], [(0, 10), (0, 9)]))
        self.assertIsNone(way_price(Line(2), (0, 10), [3, 9], [(0, 3), (0, 10)]))
        self.assertIsNone(way_price(Store(2), ("a", "b"), ["c", "a", "b"], [("b", "c"), ("b", "c"), ("b", "c")]))
        self.assertIsNone(way_price(Bags(10), (), [4, 7], [(4,), (11,)]))
        self.assertIsNone(way_price(Bags(10), (), [4, 7], [(4,), (4,)]))

    def test_all_ways_are_priced_step_by_step(self):
        for world, starts, wishes, states in few_states_worlds():
            if len(states) > 10:
                continue
            for start, row in product(starts, product(wishes, repeat=2)):
                for way in product(states, repeat=2):
                    prices = [world.price(start, row[0], way[0]), world.price(way[0], row[1], way[1])]
                    self.assertEqual(way_price(world, start, list(row), list(way)),
                                     None if None in prices else sum(prices))

    def test_great_numbers(self):
        self.assertEqual(way_price(Line(1), (-BOUND,), [BOUND, -BOUND], [(BOUND,), (-BOUND,)]), 4 * BOUND)


class OwnTest(unittest.TestCase):
    def test_what_is_handed_in_stays_as_it_was(self):
        for world, starts, wishes, states in few_states_worlds():
            row, kept = list(wishes), list(wishes)
            self.assertEqual(table(world, starts[0], row)[0], [(starts[0], 0)])
            way = best(world, starts[0], row)[1]
            handed = list(way)
            way_price(world, starts[0], row, handed)
            self.assertEqual((row, handed), (kept, way))

    def test_lists_are_ones_own(self):
        for world, starts, wishes, states in few_states_worlds():
            rows, again = table(world, starts[0], wishes), table(world, starts[0], wishes)
            for row in rows:
                row.clear()
            rows.append("changed")
            self.assertEqual(table(world, starts[0], wishes), again)
            found, twin = best(world, starts[0], wishes), best(world, starts[0], wishes)
            found[1][:] = ["changed"]
            self.assertEqual(best(world, starts[0], wishes), twin)


if __name__ == "__main__":
    unittest.main()
