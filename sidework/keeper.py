"""Keeper: the one-hand run done deed by deed, with the clashes kept while it is done."""

from sidework.books import term_at
from sidework.clashes import share_written_cell
from sidework.errors import NoDeed
from sidework.roads import all_ties, points_reached
from sidework.runs import Work


class Keeper:
    """A one-hand run on its way: what is done, what the cells hold, and what came before what."""

    def __init__(self, book, cells):
        self.work = Work(book, cells)
        self.tied = all_ties(book)
        # From each deed that is done to the points to which roads lead from its in.
        self.reached = {}

    def step(self):
        """(place, clash): does the next deed, clash the least one done ahead that clashes with it; None at the end."""
        if len(self.work.ready) == 0:
            return None
        place = self.work.ready[0]
        clash = self.least_clash(place)
        self.work.do(place)
        self.reached[place] = points_reached(self.tied, ("in", place))
        return place, clash

    def least_clash(self, place):
        """The least place done so far that clashes with the open deed at this one, or None."""
        book = self.work.book
        term = term_at(book, place)
        for p in sorted(self.reached):
            # An open deed is neither apart from what was done nor comes before it: no road, so side by side.
            if ("in", place) not in self.reached[p] and share_written_cell(term_at(book, p), term):
                return p
        return None

    def done(self):
        """A list of what is done so far, as run tells it."""
        return list(self.work.told)

    def cells(self):
        """What the cells hold now."""
        return tuple(self.work.held)

    def before(self, p, q):
        """Whether p comes before q, of two places that are done."""
        if p not in self.reached or q not in self.reached:
            raise NoDeed("one of the places is none that is done")
        # No two deeds that are done are apart.
        return p != q and ("in", q) in self.reached[p]
