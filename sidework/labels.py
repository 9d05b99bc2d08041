"""Labels: two numbers for each deed that tell what comes before what where nothing is lent."""

from sidework.books import places_and_terms, terms_as_met
from sidework.errors import HasLend
from sidework.roads import before_pairs


def numbers_as_met(pairs, some):
    """A dict from each of some to its number among them, in the order of the pairs of a place and its term."""
    wanted = {place: True for place in some}
    met = [place for place, term in pairs if place in wanted]
    return {place: number for number, place in enumerate(met)}


def labels(book, some):
    """A dict from each of some to its label (f, b): its numbers as they are met forwards and backwards."""
    pairs = places_and_terms(book)
    if any(term[0] == "lend" for place, term in pairs):
        raise HasLend("there are no labels where something is lent")
    forwards = numbers_as_met(pairs, some)
    backwards = numbers_as_met(terms_as_met(book, ("both",)), some)
    return {place: (forwards[place], backwards[place]) for place in some}


def are_both_less(one, other):
    """Whether both numbers of one label are less than those of the other one."""
    return one[0] < other[0] and one[1] < other[1]


def are_labels(book, some, thing):
    """Whether the dict has just some as its keys, and its labels tell rightly which come before which."""
    if sorted(thing) != some:
        return False
    before = before_pairs(book, some)
    for p in some:
        for q in some:
            if are_both_less(thing[p], thing[q]) != ((p, q) in before):
                return False
    return True
