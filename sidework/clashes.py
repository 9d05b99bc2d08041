"""Clashes: deeds side by side that touch one cell which one of them writes or both."""

from sidework.books import cells_read, cells_written, term_at
from sidework.roads import aside_pairs


def writes_what_is_touched(one, other):
    """Whether the one deed writes a cell that the other one reads or writes."""
    touched = cells_read(other) + cells_written(other)
    return any(cell in touched for cell in cells_written(one))


def share_written_cell(one, other):
    """Whether two deeds touch one cell that one of them writes."""
    return writes_what_is_touched(one, other) or writes_what_is_touched(other, one)


def clashes(book, some):
    """The pairs (p, q) of some that clash, rising, p ahead of q."""
    terms = {place: term_at(book, place) for place in some}
    return [(p, q) for p, q in aside_pairs(book, some) if share_written_cell(terms[p], terms[q])]
