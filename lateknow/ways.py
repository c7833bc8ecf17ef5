"""Ways that are charged: the world, and the changer."""

from lateknow.errors import NoState
from lateknow.kinds import is_amount, is_from_one_to, is_whole_number
from lateknow.worlds import Bound, World


class Ways(World):
    """Ways numbered from 0: a state is a way, a wish is a tuple of charges, one for each way."""

    def __init__(self, many, toll):
        self.many = many
        self.toll = toll

    def is_state(self, thing):
        return is_whole_number(thing) and 0 <= thing < self.many

    def is_wish(self, thing):
        if not isinstance(thing, tuple) or len(thing) != self.many:
            return False
        return all([is_amount(charge) for charge in thing])

    def price(self, before, wish, after):
        return wish[after] if after == before else wish[after] + self.toll

    def moves(self, before, wish):
        return self.priced(before, wish, list(range(self.many)))


class Changer(Bound):
    """Leaves its way once that costs more than the toll beyond what a hindsight one paid at least."""

    def __init__(self, many, toll, start=0):
        if not is_from_one_to(many, 8) or not is_amount(toll):
            raise NoState()
        Bound.__init__(self, Ways(many, toll), start)
        self.reckoned = [0 if way == start else toll for way in range(many)]

    def numbers(self):
        return list(self.reckoned)

    def charged(self, charges):
        """The new numbers of the ways, ahead of a change once more."""
        return [number + charge for number, charge in zip(self.reckoned, charges)]

    def target(self, wish):
        fresh = self.charged(wish)
        least = min(fresh)
        if fresh[self.standing] > least + self.world.toll:
            return fresh.index(least)
        return self.standing

    def learn(self, wish):
        fresh = self.charged(wish)
        far = min(fresh) + self.world.toll
        self.reckoned = [min(number, far) for number in fresh]

    def factor(self):
        return (2 * self.world.many - 1, 1)

    def parts(self, other):
        theirs = self.reckoned[other]
        found = [2 * (self.world.toll + theirs - number) for number in self.reckoned]
        found[self.standing] = theirs - self.reckoned[self.standing]
        return found
