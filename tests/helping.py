"""What several tests need: books made by chance from a fixed seed, and slow second ways to what the document says.

The second ways follow the words of the document one by one and share no code with the package.
"""

import itertools
import random

SIMPLE = ("set", "add", "copy")
READS = {"set": (), "add": (1, 2), "copy": (2,), "look": (1,)}
WRITES = {"set": (1,), "add": (1,), "copy": (1,), "look": ()}


def nested(depth, wrap, inmost):
    """The inmost thing, wrapped so many times."""
    thing = inmost
    for _ in range(depth):
        thing = wrap(thing)
    return thing


def chain(depth):
    """A body whose inmost term, a set, is within just so many others."""
    return nested(depth, lambda term: ("row", term), ("set", 0, 1))


def terms_in_all(count):
    """A body of just so many terms, from 8 on, with no term within more than four others."""
    blocks = []
    left = count - 1
    while left > 0:
        size = min(left, 13)
        left -= size
        blocks.append(block(size))
    return ("row", *blocks)


def block(size):
    """A term that is 1 to 13 terms in all."""
    if size <= 7:
        return ("row", *[("set", 0, k) for k in range(size - 1)])
    inner = ("row", *[("set", 1, k) for k in range(size - 7)])
    return ("row", *[("set", 0, k) for k in range(5)], inner)


def parts_by_hand(term):
    word = term[0]
    if word in SIMPLE or word == "wait":
        return []
    if word in ("look", "lend"):
        return list(term[2:])
    return list(term[1:])


def terms_by_hand(book):
    """All terms by their places."""
    found = {}

    def visit(place, term):
        found[place] = term
        for at, part in enumerate(parts_by_hand(term)):
            visit((*place, at), part)

    visit((), book[1])
    return found


class Slow:
    """A work done by the words of point 8: open and through are what the rules lead to, over and over."""

    def __init__(self, book, cells):
        self.terms = terms_by_hand(book)
        self.now = list(cells)
        self.done = []
        self.turn = {}

    def lend_of(self, name):
        return [p for p, t in self.terms.items() if t[0] == "lend" and t[1] == name][0]

    def becomes_open(self, place, opened, through):
        if place == ():
            return True
        above, at = place[:-1], place[-1]
        word = self.terms[above][0]
        if above not in opened:
            return False
        if word == "row":
            return at == 0 or (*above, at - 1) in through
        if word == "look":
            return self.turn.get(above) == at
        return word in ("both", "lend")

    def becomes_through(self, place, opened, through):
        if place not in opened:
            return False
        term = self.terms[place]
        word = term[0]
        count = len(parts_by_hand(term))
        if word in SIMPLE:
            return place in self.turn
        if word == "look":
            return place in self.turn and (*place, self.turn[place]) in through
        if word == "row":
            return count == 0 or (*place, count - 1) in through
        if word == "both":
            return all((*place, k) in through for k in range(count))
        if word == "lend":
            return True
        return (*self.lend_of(term[1]), 0) in through

    def open_deeds(self):
        opened, through = set(), set()
        grown = True
        while grown:
            size = len(opened) + len(through)
            for place in self.terms:
                if self.becomes_open(place, opened, through):
                    opened.add(place)
                if self.becomes_through(place, opened, through):
                    through.add(place)
            grown = len(opened) + len(through) > size
        return sorted(p for p in opened if self.terms[p][0] in (*SIMPLE, "look") and p not in self.turn)

    def do(self, place):
        term = self.terms[place]
        word, x = term[0], term[1]
        reads, wrote = (), None
        self.turn[place] = True
        if word == "set":
            wrote = term[2]
        elif word == "add":
            reads = (self.now[x], self.now[term[2]])
            wrote = int(str(reads[0] + reads[1])[-1])
        elif word == "copy":
            reads = (self.now[term[2]],)
            wrote = self.now[term[2]]
        else:
            reads = (self.now[x],)
            self.turn[place] = 1 if self.now[x] == 0 else 0
        if wrote is not None:
            self.now[x] = wrote
        self.done.append((place, reads, wrote))

    def weave(self, picks):
        picks = list(picks)
        while True:
            ready = self.open_deeds()
            if not ready:
                return self.done, tuple(self.now)
            pick = picks.pop(0) if picks else 0
            self.do(ready[pick % len(ready)])


class Chance:
    """Books, cells and picks, made by chance but from a seed, so that each run of the tests has the same ones."""

    def __init__(self, seed):
        self.dice = random.Random(seed)

    def book(self, size):
        """A book of at most about so many terms."""
        self.cells_count = self.dice.randint(1, 6)
        self.left = size
        self.names = list(range(10))
        self.dice.shuffle(self.names)
        return (self.cells_count, self.term([], 0))

    def cells(self, count):
        return tuple(self.dice.choice((0, 0, 1, 2, 5, 9)) for _ in range(count))

    def cell(self):
        return self.dice.randrange(self.cells_count)

    def term(self, around, depth):
        self.left -= 1
        words = ["set", "add", "copy"]
        if around:
            words += ["wait"] * 3
        if self.left > 0 and depth < 11:
            words += ["look", "look", "row", "row", "row", "row", "both", "both", "both"]
            if self.names:
                words += ["lend"]
        word = self.dice.choice(words)
        if word == "set":
            return (word, self.cell(), self.dice.randrange(10))
        if word in ("add", "copy"):
            return (word, self.cell(), self.cell())
        if word == "wait":
            return (word, self.dice.choice(around))
        if word == "look":
            return (word, self.cell(), self.term([], depth + 1), self.term([], depth + 1))
        if word == "lend":
            return (word, self.names.pop(), self.term(around, depth + 1))
        if word == "both":
            return (word, *[self.term(around, depth + 1) for _ in range(self.dice.randint(2, 4))])
        return self.row(around, depth)

    def row(self, around, depth):
        parts = []
        around = list(around)
        for _ in range(self.dice.randint(0, 6)):
            if self.names and self.left > 0 and self.dice.random() < 0.3:
                name = self.names.pop()
                self.left -= 1
                parts.append(("lend", name, self.term(around, depth + 2)))
                around.append(name)
            else:
                parts.append(self.term(around, depth + 1))
        return ("row", *parts)


def books_by_chance(seed, count, size):
    """So many pairs of a book and what its cells hold."""
    chance = Chance(seed)
    pairs = []
    for _ in range(count):
        book = chance.book(chance.dice.randint(1, size))
        pairs.append((book, chance.cells(book[0])))
    return pairs


def deeds_by_hand(book):
    return [place for place, term in sorted(terms_by_hand(book).items()) if term[0] in (*SIMPLE, "look")]


def is_tied_by_hand(terms, point, other):
    """Point 11 word by word: whether a tie leads from the one point to the other one."""
    (way, place), (other_way, other_place) = point, other
    term, other_term = terms[place], terms[other_place]
    count = len(parts_by_hand(term))
    if way == "in" and other_way == "out":
        return place == other_place and (term[0] in (*SIMPLE, "lend", "wait") or term == ("row",))
    if way == "in":
        return other_place in [(*place, k) for k in range(count)] and (term[0] != "row" or other_place[-1] == 0)
    if other_way == "in":
        return place != () and terms[place[:-1]][0] == "row" and other_place == (*place[:-1], place[-1] + 1)
    if other_term[0] == "wait":
        return place != () and place[-1] == 0 and terms[place[:-1]][:2] == ("lend", other_term[1])
    last = len(parts_by_hand(other_term)) - 1
    if place == () or place[:-1] != other_place:
        return False
    return other_term[0] in ("look", "both") or (other_term[0] == "row" and place[-1] == last)


def ties_by_hand(book):
    """All points, each with the set of those to which it is tied."""
    terms = terms_by_hand(book)
    points = [(way, place) for way in ("in", "out") for place in terms]
    return {point: {other for other in points if is_tied_by_hand(terms, point, other)} for point in points}


def are_apart_by_hand(book, p, q):
    """Point 12: whether there is a look with the one within its A and the other one within its B."""
    for place, term in terms_by_hand(book).items():
        a, b = (*place, 0), (*place, 1)
        if term[0] == "look" and {p[:len(a)], q[:len(a)]} == {a, b}:
            return True
    return False


def before_by_hand(book):
    """Point 12: the set of all pairs (p, q) of deeds with p before q, by roads walked point by point."""
    tied = ties_by_hand(book)
    deeds = deeds_by_hand(book)
    pairs = set()
    for p in deeds:
        met, newest = set(), {("in", p)}
        while newest:
            met |= newest
            newest = {other for point in newest for other in tied[point]} - met
        pairs |= {(p, q) for q in deeds if ("in", q) in met and p != q and not are_apart_by_hand(book, p, q)}
    return pairs


def orders_by_weaves(book):
    """The set of all pairs (p, q) such that some weave does p and later q, if looks turn out as they like."""
    pairs = set()
    later = {}

    def visit(turn):
        """All deeds that may still be done from here."""
        key = frozenset(turn.items())
        if key not in later:
            slow = Slow(book, (0,) * book[0])
            slow.turn = turn
            later[key] = set()
            for place in slow.open_deeds():
                for way in (0, 1) if slow.terms[place][0] == "look" else (True,):
                    later[key] |= {place} | visit({**turn, place: way})
            pairs.update((p, q) for p in turn for q in later[key])
        return later[key]

    visit({})
    return pairs


def some_by_chance(chance, book):
    """Deeds of which no two are apart: looks turn out by chance, and perhaps some deeds are left out."""
    terms = terms_by_hand(book)
    gone = [(*place, chance.dice.randrange(2)) for place, term in terms.items() if term[0] == "look"]
    kept = [place for place in deeds_by_hand(book) if not any(place[:len(cut)] == cut for cut in gone)]
    rate = chance.dice.choice((0.3, 0.7, 1, 1, 1))
    return [place for place in kept if chance.dice.random() < rate][:50]


def somes_by_chance(seed, count, size):
    """So many pairs of a book and some of its deeds."""
    chance = Chance(seed)
    return [(book, some_by_chance(chance, book)) for book, cells in books_by_chance(seed, count, size)]


def many_roads():
    """A book of sixty terms with four million roads and more from its first deed to its last."""
    fours = [("both", *[("add", k, 3 - k) for k in range(4)]) for _ in range(11)]
    body = ("row", ("set", 0, 1), *fours[:3], ("row", *fours[3:9]), ("row", *fours[9:], ("copy", 1, 0)))
    return (4, body)


def side_by_side(terms):
    """A term of boths with these terms side by side, and of as few boths as there can be."""
    left = list(terms)
    while len(left) > 1:
        many = 2 + (len(left) - 2) % 3
        left = [*left[many:], ("both", *left[:many])]
    return left[0]


def mended_like():
    """A book as mending makes it, with more parts, terms and terms around one another than a book may have."""
    parts = []
    for name in range(9):
        parts += [("lend", name, ("row", ("set", 0, name), ("add", 1, 0), ("copy", 2, 1)))]
        if name % 2:
            parts += [("wait", name), ("wait", name - 1)]
        parts += [("both", ("set", 3, name), chain(16))]
    return (4, ("row", *parts))


def cells_by_hand(table, term):
    return {term[at] for at in table[term[0]]}


def share_by_hand(one, other):
    """Whether both touch a cell that one of them writes or both, cell by cell."""
    for cell in range(6):
        touched = [cell in cells_by_hand(READS, term) | cells_by_hand(WRITES, term) for term in (one, other)]
        written = [cell in cells_by_hand(WRITES, term) for term in (one, other)]
        if all(touched) and any(written):
            return True
    return False


def clashes_by_hand(book, some):
    """Point 17 word by word, as a second way, also where some are apart."""
    terms, before = terms_by_hand(book), before_by_hand(book)
    pairs = []
    for p, q in itertools.combinations(some, 2):
        if (p, q) not in before and (q, p) not in before and share_by_hand(terms[p], terms[q]):
            if not are_apart_by_hand(book, p, q):
                pairs.append((p, q))
    return sorted(pairs)


def places_done(done):
    """The places of what a run or a weave did, as they came."""
    return [place for place, reads, wrote in done]


def all_weaves(after, book, cells):
    """What each weave does and comes to, all being tried place by place, as after tells them."""
    found = []
    left = [[]]
    while left:
        places = left.pop()
        done, behind, ready = after(book, cells, places)
        left += [[*places, place] for place in ready]
        if not ready:
            found.append((done, behind))
    return found
