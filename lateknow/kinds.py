"""The kinds of values that the worlds share: each asked of whatever is handed in."""


def is_whole_number(thing):
    # The two truths are ints to Python, but no whole numbers here.
    return isinstance(thing, int) and not isinstance(thing, bool)


def is_amount(thing):
    return is_whole_number(thing) and 0 <= thing <= 10 ** 18


def is_place(thing):
    return is_whole_number(thing) and abs(thing) <= 10 ** 18


def is_from_one_to(thing, most):
    return is_whole_number(thing) and 1 <= thing <= most


def is_name(thing):
    if not isinstance(thing, str) or not 1 <= len(thing) <= 8:
        return False
    return all(["a" <= sign <= "z" for sign in thing])


def are_names(thing):
    """Whether it is a tuple of unlike names, however many."""
    # Only names are held against one another: other things could not be.
    if not isinstance(thing, tuple) or not all([is_name(name) for name in thing]):
        return False
    return len(set(thing)) == len(thing)


def is_row_of_names(thing):
    return are_names(thing) and 1 <= len(thing) <= 8
