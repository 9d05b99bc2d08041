"""Roads: the points of a book's terms, the ties between them, and which deeds come before which."""

from sidework.books import parts_of, places_and_terms, term_at


def part_places(place, term):
    """The places of the parts of the term at a place, in order."""
    return [place + (at,) for at in range(len(parts_of(term)))]


def ties_from_in(place, term):
    """The points to which the in of a term is tied."""
    begun = [("in", part) for part in part_places(place, term)]
    if term[0] == "row":
        begun = begun[:1]
    # What has nothing to begin goes on to its out, and a lend does so at once.
    if term[0] == "lend" or len(begun) == 0:
        begun.append(("out", place))
    return begun


def ties_from_parts(place, term):
    """The pairs of the out of a part and the point to which the term that it is a part of ties it."""
    # What is lent is tied to the waits for it only.
    if term[0] == "lend":
        return []
    parts = part_places(place, term)
    ends = [("out", place) for part in parts]
    if term[0] == "row":
        ends = [("in", part) for part in parts[1:]] + [("out", place)]
    return [(("out", part), end) for part, end in zip(parts, ends)]


def ties_to_waits(found):
    """The pairs of the out of what was lent and the out of a wait for it, of all places and terms of a book."""
    lent = {term[1]: place + (0,) for place, term in found if term[0] == "lend"}
    return [(("out", lent[term[1]]), ("out", place)) for place, term in found if term[0] == "wait"]


def all_ties(book):
    """A dict from each point of the book to the list of the points to which it is tied."""
    found = places_and_terms(book)
    tied = {}
    pairs = ties_to_waits(found)
    for place, term in found:
        tied[("in", place)] = ties_from_in(place, term)
        tied[("out", place)] = []
        pairs.extend(ties_from_parts(place, term))
    for point, end in pairs:
        tied[point].append(end)
    return tied


def ties(book, point):
    """The points to which a point is tied, sorted."""
    return sorted(all_ties(book).get(point, []))


def points_reached(tied, start):
    """A dict from each point to which a road leads from the start to the point ahead of it on one such road."""
    ahead = {start: None}
    left = [start]
    while left:
        point = left.pop()
        for end in tied[point]:
            # Each point is gone on from once only: the roads may be millions.
            if end not in ahead:
                ahead[end] = point
                left.append(end)
    return ahead


def road(book, p, q):
    """A road from the in of p to the in of q, or None."""
    ahead = points_reached(all_ties(book), ("in", p))
    point = ("in", q)
    if point not in ahead:
        return None
    points = []
    while point is not None:
        points.append(point)
        point = ahead[point]
    points.reverse()
    return points


def is_road(book, points):
    """Whether these are one or more points of the book, each tied to the next one."""
    tied = all_ties(book)
    if len(points) == 0 or any(point not in tied for point in points):
        return False
    for point, end in zip(points, points[1:]):
        if end not in tied[point]:
            return False
    return True


def way_shared(p, q):
    """The place of the inmost term that both places are at or within."""
    shared = 0
    for one, other in zip(p, q):
        if one != other:
            break
        shared += 1
    return p[:shared]


def are_apart(book, p, q):
    """Whether one of two deeds is within the one part of a look, and the other one within its other part."""
    # Only in the term in which their ways part can they stand in unlike parts.
    parted = way_shared(p, q)
    return parted != p and parted != q and term_at(book, parted)[0] == "look"


def before_pairs(book, some):
    """A dict whose keys are the pairs (p, q) of these deeds, p coming before q."""
    tied = all_ties(book)
    pairs = {}
    for p in some:
        reached = points_reached(tied, ("in", p))
        for q in some:
            if p != q and ("in", q) in reached and not are_apart(book, p, q):
                pairs[(p, q)] = True
    return pairs


def aside_pairs(book, some):
    """The pairs (p, q) of these deeds, rising, that are side by side, p ahead of q."""
    before = before_pairs(book, some)
    pairs = []
    for at, p in enumerate(some):
        for q in some[at + 1:]:
            if (p, q) not in before and (q, p) not in before and not are_apart(book, p, q):
                pairs.append((p, q))
    return pairs


def is_before(book, p, q):
    """Whether the deed at p comes before the one at q; none comes before itself."""
    return (p, q) in before_pairs(book, [p, q])


def are_aside(book, p, q):
    """Whether two deeds are side by side; one alone is not."""
    return p != q and len(aside_pairs(book, [p, q])) == 1
