"""A store of pages: the world, and the keeper."""

from lateknow.errors import NoState
from lateknow.kinds import are_names, is_name, is_row_of_names
from lateknow.worlds import Bound, World


def swapped(pages, gone, wish):
    """The state behind, where the wish has taken the place of a page."""
    return tuple(sorted([page for page in pages if page != gone] + [wish]))


class Store(World):
    """Room for so many pages: a state is the sorted tuple of those that are there, a wish is a name."""

    def __init__(self, many):
        self.many = many

    def is_state(self, thing):
        return are_names(thing) and len(thing) == self.many and list(thing) == sorted(thing)

    def is_wish(self, thing):
        return is_name(thing)

    def price(self, before, wish, after):
        if wish not in after:
            return None
        return len([page for page in after if page not in before])

    def moves(self, before, wish):
        if wish in before:
            return self.priced(before, wish, [before])
        return self.priced(before, wish, [swapped(before, gone, wish) for gone in before])


class Keeper(Bound):
    """Lets go the page that was longest not wished for."""

    def __init__(self, pages):
        if not is_row_of_names(pages):
            raise NoState()
        Bound.__init__(self, Store(len(pages)), tuple(sorted(pages)))
        self.row = list(pages)

    def pages(self):
        return list(self.row)

    def row_behind(self, wish):
        if wish in self.row:
            return [page for page in self.row if page != wish] + [wish]
        return self.row[1:] + [wish]

    def target(self, wish):
        return tuple(sorted(self.row_behind(wish)))

    def learn(self, wish):
        self.row = self.row_behind(wish)

    def factor(self):
        return (len(self.row), 1)

    def parts(self, other):
        return [0 if page in other else place for place, page in enumerate(self.row, start=1)]
