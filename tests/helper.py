"""What the tests share: things that are wrong, and what holds of every world and rule."""

from itertools import product

from lateknow.errors import LateError, NoState, NoText, NoWish, TooGreat

BOUND = 10 ** 18


class Strange:
    """A thing of no kind that the program knows, unlike even to itself."""

    def __eq__(self, other):
        raise RuntimeError("this thing is not to be compared")

    __hash__ = None


def endless_list():
    things = []
    things.append(things)
    return things


def things_of_no_kind():
    """Things that are neither whole numbers nor tuples: no state, wish or start of any world here."""
    return [
        True, False, None,
        "", "0", "1", "a", "abc", " 1", "-1",
        [], [0], [1], [0, 1], [[0]], [(0,)],
        {}, {0: 0}, {1: 1}, {0: 1, 1: 2},
        set(), {0}, frozenset({1}), b"", b"1",
        range(1), object(), Strange(), int, len, endless_list(),
    ]


def tuples_of_no_kind():
    """Tuples of one to three places, in each of the places one of the things of no kind, or a tuple."""
    found = []
    for thing in things_of_no_kind() + [(), (0,), (0, 1)]:
        found.extend([
            (thing,), (thing, 0), (0, thing), (thing, thing),
            (thing, 0, 1), (0, thing, 1), (0, 1, thing),
        ])
    return found


def things_of_no_name():
    """Things that are neither names nor tuples; among the texts such as miss being a name by one sign."""
    texts = ["A", "Abc", "abC", "a1", "a b", " a", "a ", "a\n", "\na", "a\t", "a-b", "a_b", "a.b", "`", "{", "a`", "{a",
             "abcdefghi", "a" * 100, "\u00e4", "\u00df", "\u00aa", "\uff41", "a\u0301", "a\x00"]
    others = [thing for thing in things_of_no_kind() if not (isinstance(thing, str) and thing.isalpha())]
    return others + texts + [0, 1, -1, BOUND]


def tuples_with(things, filling):
    """For each thing the tuples in which it stands at one place of the filling, or alone at all places."""
    found = []
    for thing in things:
        found.append((thing,) * len(filling))
        found.extend([filling[:at] + (thing,) + filling[at + 1:] for at in range(len(filling))])
    return found


def check_refusal(test, kind, call, *handed, row=None):
    """The call is refused with just this class, under its bases, with this row: None but of a text."""
    with test.assertRaises(LateError) as caught:
        call(*handed)
    error = caught.exception
    test.assertIs(error.__class__, kind)
    test.assertIsInstance(error, ValueError)
    for other in (NoState, NoWish, NoText, TooGreat):
        test.assertEqual(isinstance(error, other), other is kind)
    test.assertEqual((error.row, error.row.__class__), (row, row.__class__))


def face_of(rule, states):
    """All that a rule tells without being told a wish; the states are those it is held against."""
    face = [rule.state(), rule.paid()]
    if hasattr(rule, "factor"):
        face.append(rule.factor())
        face.extend([(rule.parts(other), rule.height(other)) for other in states])
    for name in ("numbers", "pages", "loads"):
        if hasattr(rule, name):
            face.append(getattr(rule, name)())
    return face


def check_no_wishes(test, make, told, wrong, later, states):
    """Wrong things are no wishes, are refused, and leave the rule as it was, now and later."""
    rule, twin = make(), make()
    for wish in told:
        test.assertEqual(rule.pay(wish), twin.pay(wish))
    for thing in wrong:
        test.assertIs(rule.world.is_wish(thing), False)
        check_refusal(test, NoWish, rule.pay, thing)
        test.assertEqual(face_of(rule, states), face_of(twin, states))
    for wish in later:
        test.assertEqual(rule.pay(wish), twin.pay(wish))
        test.assertEqual(face_of(rule, states), face_of(twin, states))


def check_step(test, rule, wish, states):
    """The promise over one step, against every way of a hindsight one among these states."""
    world = rule.world
    stood, spent = rule.state(), rule.paid()
    top, bottom = rule.factor()
    ahead = [(state, rule.height(state)) for state in states]
    cost = rule.pay(wish)
    test.assertEqual(cost, world.price(stood, wish, rule.state()))
    test.assertIs(world.is_state(rule.state()), True)
    test.assertEqual(rule.paid(), spent + cost)
    test.assertEqual(rule.factor(), (top, bottom))
    behind = [(state, rule.height(state)) for state in states]
    for (state, height) in behind:
        test.assertGreaterEqual(height, 0)
        test.assertEqual(height, sum(rule.parts(state)))
    for (before, old), (after, new) in product(ahead, behind):
        price = world.price(before, wish, after)
        if price is not None:
            test.assertLessEqual(bottom * cost + new - old, top * price, (stood, before, wish, after))


def check_row(test, rule, row, states):
    """The promise over a row of wishes, step by step."""
    for state in states:
        test.assertGreaterEqual(rule.height(state), 0)
    for wish in row:
        check_step(test, rule, wish, states)


def least_over(world, start, row, ways_on):
    """The least that a way pays, where ways_on(state, wish) tells the pairs (state, price) that go on."""
    sums = {start: 0}
    for wish in row:
        further = {}
        for state, paid in sums.items():
            for after, price in ways_on(state, wish):
                further[after] = min(paid + price, further.get(after, paid + price))
        sums = further
    return min(sums.values())


def check_moves(test, world, before, wish):
    """What holds of the moves of each world: states, each once, sorted, with prices, and one's own list."""
    found = world.moves(before, wish)
    test.assertIsInstance(found, list)
    states = [state for state, price in found]
    test.assertEqual(states, sorted(set(states)))
    for pair in found:
        test.assertIsInstance(pair, tuple)
        test.assertIs(world.is_state(pair[0]), True)
        test.assertEqual(pair[1], world.price(before, wish, pair[0]))
        test.assertIsNotNone(pair[1])
    kept = list(found)
    found.append("changed")
    test.assertEqual(world.moves(before, wish), kept)
    test.assertEqual(found, kept + ["changed"])


def check_enough_moves(test, world, start, row, states):
    """A way by moves pays as little as any way among these states."""
    def anywhere(before, wish):
        pairs = [(after, world.price(before, wish, after)) for after in states]
        return [pair for pair in pairs if pair[1] is not None]

    test.assertEqual(least_over(world, start, row, world.moves), least_over(world, start, row, anywhere))


def check_own_lists(test, make, told, wish, ask):
    """A list that one got is one's own: changing it changes no answer, and no later wish changes it."""
    rule, twin = make(), make()
    for early in told:
        test.assertEqual(rule.pay(early), twin.pay(early))
    mine, kept, copy = ask(rule), ask(rule), list(ask(rule))
    test.assertIsInstance(mine, list)
    mine[:] = ["changed"] * (len(mine) + 1)
    test.assertEqual((ask(rule), kept), (copy, copy))
    test.assertEqual(rule.pay(wish), twin.pay(wish))
    test.assertEqual((ask(rule), rule.state()), (ask(twin), twin.state()))
    test.assertNotEqual(ask(rule), copy)
    test.assertEqual(kept, copy)


def check_asked_again(test, rule, row, states):
    """Asking changes nothing: who asks the same again is told the same."""
    for wish in row:
        face = face_of(rule, states)
        test.assertEqual(face_of(rule, states), face)
        test.assertEqual(face_of(rule, states), face)
        rule.pay(wish)
