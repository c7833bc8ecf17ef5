"""Enemies of the rules: rows of wishes that are bad for a rule, each with a way that pays little for them."""

from lateknow.bags import Filler
from lateknow.least import best, way_price
from lateknow.line import Both
from lateknow.shelf import Front
from lateknow.stores import Keeper
from lateknow.ways import Changer

# One more than a store holds at most, so that a keeper always lacks one of them.
NAMES = ("a", "b", "c", "d", "e", "f", "g", "h", "i")


def lacking(things, had):
    """The first of the things that is not among those had."""
    return [thing for thing in things if thing not in had][0]


def wishes_against(rule, many, worst):
    """So many wishes, each the worst for the rule as it then stands; the rule pays for them."""
    wishes = []
    for turn in range(many):
        wish = worst(rule)
        rule.pay(wish)
        wishes.append(wish)
    return wishes


def lazy_wishes(rule, places, many):
    """So many wishes, each the place at which no lazy fetcher stands; the rule pays for them."""
    # A lazy fetcher goes no farther than the one it stands for, and each wish sends one of them a gap or more.
    lazy = list(rule.state())
    wishes = []
    for turn in range(many):
        wish = lacking(places, lazy)
        rule.pay(wish)
        lazy[rule.state().index(wish)] = wish
        wishes.append(wish)
    return wishes


def way_that_leaves(place, places, wishes):
    """The way that leaves this place at the first wish, and the wish before at each later one that it lacks."""
    empty = places[-1]
    leaves = place
    way = []
    for wish in wishes:
        if wish == empty:
            empty = leaves
        leaves = wish
        way.append(tuple([other for other in places if other != empty]))
    return way


def enemy_of_both(k, gap, many):
    places = [gap * at for at in range(k + 1)]
    start = tuple(places[:-1])
    rule = Both(start)
    wishes = lazy_wishes(rule, places, many)
    # At a later wish one of these ways alone must go, as far as a lazy fetcher did: they share what the rule pays.
    ways = [way_that_leaves(place, places, wishes) for place in start]
    return (start, wishes, min(ways, key=lambda way: way_price(rule.world, start, wishes, way)))


def enemy_of_nearest(gap, many):
    # The fetcher at the gap is never the nearest; a hindsight one sends it at once, and never pays again.
    return ((0, gap), [1 - turn % 2 for turn in range(many)], [(0, 1)] * many)


def enemy_of_front(m, many):
    start = NAMES[:m]
    wishes = wishes_against(Front(start), many, lambda foe: foe.state()[-1])
    # The things are wished for in turn, so an order that stays pays for each place alike.
    return (start, wishes, [start] * many)


def enemy_of_buyer(whole):
    # It hires for all but 1 of the whole, then has to buy.
    return (0, [whole - 1, whole], [1, 1])


def enemy_of_changer(n, toll, many):
    rule = Changer(n, toll)
    wishes = wishes_against(rule, many, lambda foe: tuple([1 if way == foe.state() else 0 for way in range(n)]))
    return (0, wishes, best(rule.world, 0, wishes)[1])


def enemy_of_keeper(k, many):
    start = NAMES[:k]
    rule = Keeper(start)
    wishes = wishes_against(rule, many, lambda foe: lacking(NAMES[:k + 1], foe.state()))
    return (start, wishes, best(rule.world, tuple(sorted(start)), wishes)[1])


def enemy_of_filler(room, many):
    half = room // 2
    # The least size that, put upon a half, leaves no room for another half.
    small = room + 1 - 2 * half
    halves = Filler(room)
    smalls = Filler(room)
    wishes = []
    way = []
    for turn in range(many):
        for filler, size in ((halves, half), (smalls, small)):
            filler.pay(size)
            wishes.append(size)
            way.append(tuple(sorted(halves.loads() + smalls.loads())))
    return ((), wishes, way)
