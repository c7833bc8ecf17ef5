"""Fetchers on a line: the world, the rule of both and the rule of the nearest."""

from lateknow.errors import NoState
from lateknow.kinds import is_place
from lateknow.worlds import Bound, Rule, World


def ways_between(before, after):
    return sum([abs(here - there) for here, there in zip(before, after)])


def apart(places):
    """How far each two of the places, which are sorted, are apart, all together."""
    total = 0
    for at, place in enumerate(places):
        total = total + sum([place - left for left in places[:at]])
    return total


def sent(places, at, wish):
    """The state behind, where the fetcher of that number has gone to the wish, all others stayed."""
    return tuple(sorted(places[:at] + (wish,) + places[at + 1:]))


def line_of(start):
    # How many fetchers there are is read off the start, so that one is asked for first.
    if not isinstance(start, tuple) or not 1 <= len(start) <= 6:
        raise NoState()
    return Line(len(start))


class Line(World):
    """Fetchers at places on a line: a state is the sorted tuple of the places, a wish is a place."""

    def __init__(self, many):
        self.many = many

    def is_state(self, thing):
        if not isinstance(thing, tuple) or len(thing) != self.many:
            return False
        # Only places are sorted: other things could not be held against one another.
        if not all([is_place(place) for place in thing]):
            return False
        return list(thing) == sorted(thing)

    def is_wish(self, thing):
        return is_place(thing)

    def price(self, before, wish, after):
        if wish not in after:
            return None
        return ways_between(before, after)

    def moves(self, before, wish):
        if wish in before:
            return self.priced(before, wish, [before])
        return self.priced(before, wish, [sent(before, at, wish) for at in range(len(before))])


class Both(Bound):
    """Sends the nearest fetchers of both sides towards the wish, equally far."""

    def __init__(self, start):
        Bound.__init__(self, line_of(start), start)

    def target(self, wish):
        if wish in self.standing:
            return self.standing
        left = [place for place in self.standing if place < wish]
        right = [place for place in self.standing if place > wish]
        if not right:
            left[-1] = wish
        elif not left:
            right[0] = wish
        else:
            step = min(wish - left[-1], right[0] - wish)
            left[-1] = left[-1] + step
            right[0] = right[0] - step
        return tuple(left + right)

    def factor(self):
        return (len(self.standing), 1)

    def parts(self, other):
        return [len(self.standing) * ways_between(self.standing, other), apart(self.standing)]


class Nearest(Rule):
    """Sends the nearest fetcher to the wish, of two equally near the left one."""

    def __init__(self, start):
        Rule.__init__(self, line_of(start), start)

    def target(self, wish):
        nearest = min(self.standing, key=lambda place: (abs(place - wish), place))
        return sent(self.standing, self.standing.index(nearest), wish)
