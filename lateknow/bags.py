"""Bags that fill: the world, and the filler."""

from lateknow.errors import NoState
from lateknow.kinds import is_amount, is_from_one_to
from lateknow.worlds import Bound, World

MOST_BAGS = 500


def opened(loads, size):
    """The state behind, where the size was put into a new bag."""
    return tuple(sorted(loads + (size,)))


def filled(loads, at, size):
    """The state behind, where the size was put into the bag at that place."""
    return tuple(sorted(loads[:at] + (loads[at] + size,) + loads[at + 1:]))


class Bags(World):
    """Bags of one room: a state is the sorted tuple of the loads of those opened, a wish is a size."""

    def __init__(self, room):
        self.room = room

    def is_state(self, thing):
        if not isinstance(thing, tuple) or len(thing) > MOST_BAGS:
            return False
        # Only loads are sorted: other things could not be held against one another.
        if not all([is_from_one_to(load, self.room) for load in thing]):
            return False
        return list(thing) == sorted(thing)

    def is_wish(self, thing):
        return is_from_one_to(thing, self.room)

    def price(self, before, wish, after):
        if len(after) != len(before):
            return 1 if len(before) < MOST_BAGS and after == opened(before, wish) else None
        # A load that grew leaves all smaller ones where they were: so it is the first that differs.
        places = [at for at in range(len(before)) if before[at] != after[at]]
        if not places or before[places[0]] + wish > self.room:
            return None
        return 0 if after == filled(before, places[0], wish) else None

    def moves(self, before, wish):
        # Bags with the same load lead to the same state, so one of them is enough.
        loads = [load for load in sorted(set(before)) if load + wish <= self.room]
        states = [filled(before, before.index(load), wish) for load in loads]
        return self.priced(before, wish, states + [opened(before, wish)])


class Filler(Bound):
    """Puts a size into the bag that it opened last, else into a new one."""

    def __init__(self, room):
        if not is_amount(room) or room == 0:
            raise NoState()
        Bound.__init__(self, Bags(room), ())
        self.packed = []

    def loads(self):
        return list(self.packed)

    def loads_behind(self, size):
        if self.packed and self.packed[-1] + size <= self.world.room:
            return self.packed[:-1] + [self.packed[-1] + size]
        return self.packed + [size]

    def target(self, wish):
        return tuple(sorted(self.loads_behind(wish)))

    def price_to(self, wish, after):
        # The world has no price for a bag past its bound, which a long row of wishes may bring about.
        return len(after) - len(self.standing)

    def learn(self, wish):
        self.packed = self.loads_behind(wish)

    def factor(self):
        return (2 * self.world.room, self.world.room)

    def parts(self, other):
        room = self.world.room
        left = sum([room - load for load in other])
        return [2 * left, self.packed[-1] if self.packed else room]
