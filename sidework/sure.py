"""Sure: whether each weave comes to the same, with two weaves that part where one may not."""

from sidework.clashes import clashes
from sidework.roads import before_pairs
from sidework.runs import places_told, run


def first_clash(pairs):
    """Of the pairs (p, q) that clash the one with the least q, and of these the one with the least p."""
    q, p = min([(q, p) for p, q in pairs])
    return p, q


def all_before(book, places, p, q):
    """The places of those deeds, as they stand in the list, that come before the one at p or the one at q."""
    before = before_pairs(book, places)
    return [place for place in places if (place, p) in before or (place, q) in before]


def sure(book, cells):
    """("sure", done) where no deeds of the one-hand run clash, else ("clash", p, q, one, other)."""
    done = run(book, cells)[0]
    places = places_told(done)
    pairs = clashes(book, places)
    if len(pairs) == 0:
        return "sure", done
    p, q = first_clash(pairs)
    ahead = all_before(book, places, p, q)
    return "clash", p, q, ahead + [p, q], ahead + [q, p]
