"""Mended: books made so that no two of their deeds clash, done or not."""

from sidework.books import OPERANDS, deed_places, parts_of, places_and_terms
from sidework.clashes import clashes
from sidework.roads import way_shared


def all_clashes(book):
    """The pairs (p, q) of the body's deeds that clash, done or not, rising, p ahead of q."""
    return clashes(book, deed_places(book))


def is_within(place, outer):
    return place[:len(outer)] == outer


def lends_that_clash(book):
    """A dict whose keys are the places of the lends with a deed within that clashes with one outside."""
    pairs = all_clashes(book)
    lends = [place for place, term in places_and_terms(book) if term[0] == "lend"]
    return {lend: True for lend in lends if any(is_within(p, lend) != is_within(q, lend) for p, q in pairs)}


def boths_that_clash(book):
    """A dict whose keys are the places of the boths of which deeds of two parts clash, the lends being mended."""
    # A wait stands behind each lend that clashes, so in a row the earlier part is through first: two part in a both.
    return {way_shared(p, q): True for p, q in all_clashes(book)}


def with_parts(term, parts):
    """The term with these parts in the stead of its own."""
    return term[:1 + len(OPERANDS[term[0]])] + tuple(parts)


def with_waits(term, place, lends):
    """The terms, one or two, that stand for the one at a place: a wait goes behind each of these lends."""
    parts = []
    for at, part in enumerate(parts_of(term)):
        inner = with_waits(part, place + (at,), lends)
        # Only a row can take one part more.
        parts.extend(inner if term[0] == "row" else one_term(inner))
    made = [with_parts(term, parts)]
    if place in lends:
        made.append(("wait", term[1]))
    return made


def one_term(terms):
    """A list of one term that does these one behind the other."""
    return terms if len(terms) == 1 else [("row",) + tuple(terms)]


def with_rows(term, place, boths):
    """The term at a place, each of these boths as the row of its parts."""
    parts = [with_rows(part, place + (at,), boths) for at, part in enumerate(parts_of(term))]
    return ("row",) + tuple(parts) if place in boths else with_parts(term, parts)


def mended(book):
    """The book with waits behind the lends that clash, then with rows for the boths that clash."""
    count, body = book
    # Nothing is outside of the body: where it is a lend no wait goes behind it.
    waiting = with_waits(body, (), lends_that_clash(book))[0]
    return count, with_rows(waiting, (), boths_that_clash((count, waiting)))
