"""The bases of all worlds and of all rules."""

from lateknow.errors import NoState, NoWish


class World:
    """A world without a state and without a wish: each world tells its own."""

    def is_state(self, thing):
        return False

    def is_wish(self, thing):
        return False

    def price(self, before, wish, after):
        return None

    def moves(self, before, wish):
        return []

    def priced(self, before, wish, states):
        """Those of the states to which one may go, each once and sorted, with their prices."""
        pairs = [(after, self.price(before, wish, after)) for after in sorted(set(states))]
        return [pair for pair in pairs if pair[1] is not None]


class Rule:
    """A rule that stands at a state of its world, and stays there: each rule tells its own target."""

    def __init__(self, world, start):
        if not world.is_state(start):
            raise NoState()
        self.world = world
        self.standing = start
        self.spent = 0

    def target(self, wish):
        """The state to which the rule goes for a wish."""
        return self.standing

    def price_to(self, wish, after):
        return self.world.price(self.standing, wish, after)

    def learn(self, wish):
        """Keeps what the rule must know of a wish besides its state: most rules need nothing."""
        pass

    def state(self):
        return self.standing

    def pay(self, wish):
        # Asked ahead of all else, so that a refusal leaves the rule as it was.
        if not self.world.is_wish(wish):
            raise NoWish()
        after = self.target(wish)
        cost = self.price_to(wish, after)
        self.learn(wish)
        self.standing = after
        self.spent = self.spent + cost
        return cost

    def paid(self):
        return self.spent


class Bound(Rule):
    """A rule with a factor and a height: each tells its own factor and parts."""

    def factor(self):
        return (1, 1)

    def parts(self, other):
        return []

    def height(self, other):
        return sum(self.parts(other))
