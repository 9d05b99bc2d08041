"""Books: a number of cells and a body of terms, why a thing is none, and the places of the terms."""

from sidework.errors import NoBook

MOST_CELLS = 6
MOST_TERMS = 60
MOST_AROUND = 12
NUMBERS = 10
DEEDS = ("set", "add", "copy", "look")

# What stands in a term between its word and its parts.
OPERANDS = {
    "set": ("cell", "number"),
    "add": ("cell", "cell"),
    "copy": ("cell", "cell"),
    "look": ("cell",),
    "row": (),
    "both": (),
    "lend": ("number",),
    "wait": ("number",),
}

# The least and the greatest number of parts.
PART_LIMITS = {
    "set": (0, 0),
    "add": (0, 0),
    "copy": (0, 0),
    "look": (2, 2),
    "row": (0, 6),
    "both": (2, 4),
    "lend": (1, 1),
    "wait": (0, 0),
}


def parts_of(term):
    """The terms right in a term, in order."""
    return term[1 + len(OPERANDS[term[0]]):]


def is_deed(term):
    return term[0] in DEEDS


def cells_read(term):
    """The cells that a deed reads, in order."""
    if term[0] == "add":
        return (term[1], term[2])
    if term[0] == "copy":
        return (term[2],)
    if term[0] == "look":
        return (term[1],)
    return ()


def cells_written(term):
    """The cells that a deed writes: none for a look, else one."""
    return () if term[0] == "look" else (term[1],)


def is_whole_from(least, most, thing):
    """Whether the thing is a whole number within the limits; a truth is none."""
    return isinstance(thing, int) and not isinstance(thing, bool) and least <= thing <= most


def has_operands(count, term):
    """Whether the operands behind a known word are there and within their limits."""
    kinds = OPERANDS[term[0]]
    if len(term) < 1 + len(kinds):
        return False
    for kind, operand in zip(kinds, term[1:]):
        most = count - 1 if kind == "cell" else NUMBERS - 1
        if not is_whole_from(0, most, operand):
            return False
    return True


def is_made_but_for_parts(count, thing):
    """Whether the thing would be a term if the things in the places of its parts were terms."""
    if not isinstance(thing, tuple) or len(thing) == 0:
        return False
    # Only a text is looked up: other things need not be fit for a key.
    if not isinstance(thing[0], str) or thing[0] not in OPERANDS:
        return False
    if not has_operands(count, thing):
        return False
    least, most = PART_LIMITS[thing[0]]
    return least <= len(parts_of(thing)) <= most


def is_made(thing):
    """Whether the thing is a pair of a number of cells and a term on these."""
    if not isinstance(thing, tuple) or len(thing) != 2:
        return False
    count, body = thing
    if not is_whole_from(1, MOST_CELLS, count):
        return False
    # A list of what is left, as things may lie deeper within one another than calls should.
    left = [body]
    while left:
        term = left.pop()
        if not is_made_but_for_parts(count, term):
            return False
        left.extend(parts_of(term))
    return True


def terms_as_met(book, turned):
    """The pairs of a place and its term, inwards from the body, the parts of terms with turned words backwards."""
    pairs = []
    left = [((), book[1])]
    while left:
        place, term = left.pop()
        pairs.append((place, term))
        inner = [(place + (at,), part) for at, part in enumerate(parts_of(term))]
        # What is put last is taken first: a term, all within it, then the next one.
        if term[0] not in turned:
            inner.reverse()
        left.extend(inner)
    return pairs


def places_and_terms(book):
    """The pairs of a place and its term, by rising places."""
    return terms_as_met(book, ())


def lends_twice(book):
    """Whether one name is lent by two terms, wherever these stand."""
    names = [term[1] for place, term in places_and_terms(book) if term[0] == "lend"]
    return len(set(names)) < len(names)


def parts_with_names(term, names):
    """The parts of a term in which these names are around, each with the names around in it."""
    if term[0] == "look":
        return [(part, ()) for part in parts_of(term)]
    pairs = []
    around = names
    for part in parts_of(term):
        pairs.append((part, around))
        if term[0] == "row" and part[0] == "lend":
            around = around + (part[1],)
    return pairs


def has_stray_wait(book):
    """Whether a wait stands where its name is not around."""
    left = [(book[1], ())]
    while left:
        term, names = left.pop()
        if term[0] == "wait" and term[1] not in names:
            return True
        left.extend(parts_with_names(term, names))
    return False


def is_great(book):
    places = all_places(book)
    return len(places) > MOST_TERMS or any(len(place) > MOST_AROUND for place in places)


def why_no_book(thing):
    """The word for why the thing is no book, or None where it is one."""
    if not is_made(thing):
        return "shape"
    if lends_twice(thing) or has_stray_wait(thing):
        return "names"
    if is_great(thing):
        return "great"
    return None


def need_book(thing):
    """Refuses what is no book."""
    fault = why_no_book(thing)
    if fault is not None:
        raise NoBook(fault)


def all_places(book):
    """The places of all terms, rising."""
    return [place for place, term in places_and_terms(book)]


def deed_places(book):
    """The places of the deeds, rising."""
    return [place for place, term in places_and_terms(book) if is_deed(term)]


def term_at(book, place):
    """The term that is come to from the body by the parts with these numbers."""
    term = book[1]
    for at in place:
        term = parts_of(term)[at]
    return term
