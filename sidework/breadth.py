"""Breadth: rows of deeds, as few as any, deeds side by side, as many, and stamps by rows."""

from sidework.errors import NoRows
from sidework.roads import before_pairs


def gets_next(place, later, ahead, tried):
    """Whether the deed gets a next one of its own; those that have one already are moved to others for it."""
    for other in later[place]:
        if other not in tried:
            tried[other] = True
            if other not in ahead or gets_next(ahead[other], later, ahead, tried):
                ahead[other] = place
                return True
    return False


def all_ahead(some, later):
    """A dict from deeds to those right ahead of them in their rows, with as many deeds as there can be."""
    ahead = {}
    for place in some:
        gets_next(place, later, ahead, {})
    return ahead


def rows_by(some, ahead):
    """The rows in which these stand right ahead of one another."""
    behind = {ahead[place]: place for place in ahead}
    rows = []
    for first in some:
        if first not in ahead:
            row = [first]
            while row[-1] in behind:
                row.append(behind[row[-1]])
            rows.append(row)
    return rows


def side_by(some, later, ahead):
    """A side with a deed of each row."""
    behind = {ahead[place]: place for place in ahead}
    left = [place for place in some if place not in behind]
    begun = {place: True for place in left}
    met = {}
    while left:
        place = left.pop()
        for other in later[place]:
            if other not in met:
                met[other] = True
                # One stands right ahead of it, else all_ahead would have had one more.
                begun[ahead[other]] = True
                left.append(ahead[other])
    # Of each two right ahead of one another at most one deed is barred so (Koenig): one is left for each row.
    return [place for place in some if place in begun and place not in met]


def all_later(before, some):
    """A dict from each of some to those of some that it comes before."""
    return {p: [q for q in some if (p, q) in before] for p in some}


def rows_and_side(book, some):
    """(rows, side): rows of some, as few as any, and a side of some with as many deeds."""
    later = all_later(before_pairs(book, some), some)
    ahead = all_ahead(some, later)
    return rows_by(some, ahead), side_by(some, later, ahead)


def hold_each_once(lists, some):
    """Whether none of the lists is empty, and in them stands each of some once, and nothing else."""
    if any(len(places) == 0 for places in lists):
        return False
    return sorted([place for places in lists for place in places]) == some


def are_rows_by(before, some, rows):
    """Whether the lists are rows of some, by the pairs of which one comes before the other."""
    if not hold_each_once(rows, some):
        return False
    for row in rows:
        for p, q in zip(row, row[1:]):
            if (p, q) not in before:
                return False
    return True


def are_rows(book, some, rows):
    """Whether the lists are rows of some."""
    return are_rows_by(before_pairs(book, some), some, rows)


def is_side(book, some, side):
    """Whether the list is a side of some."""
    if side != sorted(set(side)) or any(place not in some for place in side):
        return False
    # No two of some are apart, so those that do not come before one another are side by side.
    return len(before_pairs(book, side)) == 0


def stamp_by(before, rows, place):
    """How many of each row come before the deed, it itself counted."""
    return tuple([len([p for p in row if p == place or (p, place) in before]) for row in rows])


def stamps(book, some, rows):
    """A dict from each of some to its stamp by the rows."""
    before = before_pairs(book, some)
    if not are_rows_by(before, some, rows):
        raise NoRows("the lists are no rows of these deeds")
    return {place: stamp_by(before, rows, place) for place in some}
