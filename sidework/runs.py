"""Runs and weaves: a work done by one hand, by picks, or place by place."""

from sidework.books import NUMBERS, cells_read, is_deed, parts_of, term_at
from sidework.errors import NoStep


def number_written(term, reads):
    """The number that a deed writes into its cell when it has read these, None for a look."""
    if term[0] == "look":
        return None
    if term[0] == "set":
        return term[2]
    if term[0] == "copy":
        return reads[0]
    return sum(reads) % NUMBERS


class Work:
    """A work that is being done: what its cells hold, the deeds told so far, and the open ones."""

    def __init__(self, book, cells):
        self.book = book
        self.held = list(cells)
        self.told = []
        self.reads = {}
        self.lent = {}
        self.ready = []
        self.find_ready()

    def find_ready(self):
        """Finds the open deeds anew, by rising places."""
        self.ready = []
        self.lent = {}
        self.is_through(self.book[1], ())

    def is_through(self, term, place):
        """Whether an open term is through; the open deeds within it are added to the ready ones."""
        if is_deed(term):
            return self.is_deed_through(term, place)
        if term[0] == "row":
            return self.is_row_through(term, place)
        if term[0] == "both":
            return self.is_both_through(term, place)
        if term[0] == "lend":
            self.lent[term[1]] = self.is_through(parts_of(term)[0], place + (0,))
            return True
        # A wait stands in a later part than its lend, which therefore was met already.
        return self.lent[term[1]]

    def is_deed_through(self, term, place):
        if place not in self.reads:
            self.ready.append(place)
            return False
        if term[0] != "look":
            return True
        turn = 1 if self.reads[place] == (0,) else 0
        return self.is_through(parts_of(term)[turn], place + (turn,))

    def is_row_through(self, term, place):
        for at, part in enumerate(parts_of(term)):
            if not self.is_through(part, place + (at,)):
                return False
        return True

    def is_both_through(self, term, place):
        through = True
        # Each part is asked, also behind one that is not through: all of them are open.
        for at, part in enumerate(parts_of(term)):
            if not self.is_through(part, place + (at,)):
                through = False
        return through

    def do(self, place):
        """Does the open deed at the place."""
        term = term_at(self.book, place)
        reads = tuple([self.held[cell] for cell in cells_read(term)])
        wrote = number_written(term, reads)
        if wrote is not None:
            self.held[term[1]] = wrote
        self.reads[place] = reads
        self.told.append((place, reads, wrote))
        self.find_ready()


def places_told(done):
    """The places of what is told as done, rising."""
    return sorted([place for place, reads, wrote in done])


def run(book, cells):
    """(done, cells): what one hand does, always the least open place, and what the cells hold behind all."""
    return weave(book, cells, [])


def weave(book, cells, picks):
    """(done, cells) likewise, but of the open deeds the picks choose, and the least is taken behind the last pick."""
    work = Work(book, cells)
    while work.ready:
        step = len(work.told)
        pick = picks[step] if step < len(picks) else 0
        work.do(work.ready[pick % len(work.ready)])
    return work.told, tuple(work.held)


def after(book, cells, places):
    """(done, cells, open): the deeds at the places done in this order, and the places of those then open."""
    work = Work(book, cells)
    for number, place in enumerate(places):
        if place not in work.ready:
            raise NoStep(number)
        work.do(place)
    return work.told, tuple(work.held), work.ready
