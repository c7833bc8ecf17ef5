"""Reports: the rule of a game held against a best way."""

from lateknow.games import read_game, rule_of
from lateknow.least import best


def in_words(state):
    # A hiring and a way are numbers, all other states are tuples.
    if isinstance(state, tuple):
        return " ".join([str(part) for part in state])
    return str(state)


def ask_lines(rule, wishes, way):
    """A line for each wish; the rule pays for them."""
    lines = []
    before = rule.state()
    for wish, after in zip(wishes, way):
        cost = rule.pay(wish)
        price = rule.world.price(before, wish, after)
        height = rule.height(after)
        state = in_words(after)
        lines.append(f"pay {cost} price {price} height {height} at {state}")
        before = after
    return lines


def report(text):
    game = read_game(text)
    rule = rule_of(game[0], game[1])
    found = best(rule.world, rule.state(), game[2])
    least = found[0]
    begin = rule.height(rule.state())
    lines = ask_lines(rule, game[2], found[1])
    paid = rule.paid()
    top = rule.factor()[0]
    bottom = rule.factor()[1]
    return "\n".join(lines + [f"paid {paid} least {least}", f"factor {top} {bottom} begin {begin}"])
