"""The kinds of values that the worlds share: each asked of whatever is handed in."""


def is_whole_number(thing):
    # The two truths are ints to Python, but no whole numbers here.
    return isinstance(thing, int) and not isinstance(thing, bool)


def is_amount(thing):
    return is_whole_number(thing) and 0 <= thing <= 10 ** 18


def is_place(thing):
    return is_whole_number(thing) and abs(thing) <= 10 ** 18
