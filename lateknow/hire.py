"""Hiring or buying: the world, and the buyer."""

from lateknow.errors import NoState
from lateknow.kinds import is_amount, is_whole_number
from lateknow.worlds import Bound, World


class Hire(World):
    """A thing to buy for a whole, or to hire day by day: state 0 is hiring, state 1 is bought."""

    def __init__(self, whole):
        self.whole = whole

    def is_state(self, thing):
        return is_whole_number(thing) and 0 <= thing <= 1

    def is_wish(self, thing):
        return is_amount(thing)

    def price(self, before, wish, after):
        if before == 1:
            return 0 if after == 1 else None
        return self.whole if after == 1 else wish

    def moves(self, before, wish):
        return self.priced(before, wish, [0, 1])


class Buyer(Bound):
    """Hires until the hires would come to the whole, then buys."""

    def __init__(self, whole):
        if not is_amount(whole) or whole == 0:
            raise NoState()
        Bound.__init__(self, Hire(whole), 0)

    def target(self, wish):
        # Until it buys, all that it spent was for hiring.
        if self.standing == 1 or self.spent + wish >= self.world.whole:
            return 1
        return 0

    def factor(self):
        return (2 * self.world.whole - 1, self.world.whole)

    def parts(self, other):
        whole = self.world.whole
        if self.standing == 1:
            return [0]
        if other == 0:
            return [(whole - 1) * self.spent]
        return [whole * (2 * whole - 1 - self.spent)]
