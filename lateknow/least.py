"""The least that a hindsight one can pay: the table, a best way, and what a way pays."""

from lateknow.errors import TooGreat

MOST_STATES = 60


def reached(world, row, wish):
    """The row behind a wish: for each state the least sum, and a state ahead from which it came."""
    found = {}
    for before in row:
        paid = row[before][0]
        for after, price in world.moves(before, wish):
            if after not in found or paid + price < found[after][0]:
                found[after] = (paid + price, before)
    if len(found) > MOST_STATES:
        raise TooGreat()
    return found


def traced_rows(world, start, wishes):
    rows = [{start: (0, None)}]
    for wish in wishes:
        rows.append(reached(world, rows[-1], wish))
    return rows


def without_trace(row):
    return sorted([(state, row[state][0]) for state in row])


def table(world, start, wishes):
    return [without_trace(row) for row in traced_rows(world, start, wishes)]


def best(world, start, wishes):
    rows = traced_rows(world, start, wishes)
    last = rows[-1]
    state = min(sorted(last), key=lambda some: last[some][0])
    least = last[state][0]
    way = []
    for row in reversed(rows[1:]):
        way.append(state)
        state = row[state][1]
    return (least, list(reversed(way)))


def way_price(world, start, wishes, way):
    total = 0
    before = start
    for wish, after in zip(wishes, way):
        price = world.price(before, wish, after)
        if price is None:
            return None
        total = total + price
        before = after
    return total
