"""A shelf of things: the world, and the rule of the front."""

from lateknow.errors import NoState, TooGreat
from lateknow.kinds import are_names, is_name, is_row_of_names
from lateknow.worlds import Bound, World


def overtakers(order, at, other):
    """How many things stand behind the one at that place of the order, but ahead of it in the other."""
    place = other.index(order[at])
    return len([thing for thing in order[at + 1:] if other.index(thing) < place])


def turned_pairs(before, after):
    return sum([overtakers(before, at, after) for at in range(len(before))])


def all_orders(things):
    orders = [()]
    for thing in things:
        longer = []
        for order in orders:
            longer.extend([order[:at] + (thing,) + order[at:] for at in range(len(order) + 1)])
        orders = longer
    return orders


class Shelf(World):
    """Things in a row: a state is a tuple of all of them in some order, a wish is one of them."""

    def __init__(self, things):
        self.things = things

    def is_state(self, thing):
        return are_names(thing) and sorted(thing) == sorted(self.things)

    def is_wish(self, thing):
        return is_name(thing) and thing in self.things

    def price(self, before, wish, after):
        return turned_pairs(before, after) + after.index(wish) + 1

    def moves(self, before, wish):
        if len(before) > 4:
            raise TooGreat()
        return self.priced(before, wish, all_orders(before))


class Front(Bound):
    """Brings the wished thing to the front."""

    def __init__(self, start):
        if not is_row_of_names(start):
            raise NoState()
        Bound.__init__(self, Shelf(start), start)

    def target(self, wish):
        return (wish,) + tuple([thing for thing in self.standing if thing != wish])

    def factor(self):
        many = len(self.standing)
        return (2 * many - 1, many)

    def parts(self, other):
        many = len(self.standing)
        return [many * overtakers(self.standing, at, other) for at in range(many)]
