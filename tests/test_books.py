"""Points 4 to 7: which things are books, why the others are none, and the places in a book."""

import copy
import unittest

from helping import block, books_by_chance, chain, nested, parts_by_hand, terms_by_hand, terms_in_all
from sidework.books import all_places, deed_places, need_book, parts_of, term_at, why_no_book
from sidework.errors import NoBook, WorkError

SET = ("set", 0, 1)
ROW = ("row",)
ODD_THINGS = (
    None, True, False, 0, 1, -1, 7, 10 ** 60, "", "set", "row", "shape", (), ("",), ("set",), ("sets", 0, 1),
    ("Set", 0, 1), (0, 0, 1), ((), 0, 1), ([], 0, 1), ({}, 0, 1), (None,), ("row", None), ("row", "row"), ("row", ()),
    [], ["set", 0, 1], ["row"], [2, ["row"]], {}, {"set": 1}, {0: ("set", 0, 1)}, {(): ()}, [[]], [{}], ({},), ("both",),
)


def is_number(thing, most):
    return not isinstance(thing, bool) and isinstance(thing, int) and thing in range(most + 1)


def is_term(thing, count):
    """Point 5 word by word, as a second way."""
    if not isinstance(thing, tuple):
        return False
    head, rest = thing[:1], thing[1:]
    if head == ("set",):
        return len(rest) == 2 and is_number(rest[0], count - 1) and is_number(rest[1], 9)
    if head == ("add",) or head == ("copy",):
        return len(rest) == 2 and is_number(rest[0], count - 1) and is_number(rest[1], count - 1)
    if head == ("look",):
        return len(rest) == 3 and is_number(rest[0], count - 1) and all(is_term(part, count) for part in rest[1:])
    if head == ("row",):
        return len(rest) <= 6 and all(is_term(part, count) for part in rest)
    if head == ("both",):
        return 2 <= len(rest) <= 4 and all(is_term(part, count) for part in rest)
    if head == ("lend",):
        return len(rest) == 2 and is_number(rest[0], 9) and is_term(rest[1], count)
    return head == ("wait",) and len(rest) == 1 and is_number(rest[0], 9)


def is_around(terms, place, name):
    """Point 6 word by word, as a second way: some row above has the lend ahead, with no look between."""
    for cut in range(len(place)):
        row, at = place[:cut], place[cut]
        if terms[row][0] != "row":
            continue
        ahead = [terms[(*row, k)] for k in range(at)]
        lent = any(part[0] == "lend" and part[1] == name for part in ahead)
        between = [terms[place[:k]][0] for k in range(cut + 1, len(place))]
        if lent and "look" not in between:
            return True
    return False


def why_by_hand(thing):
    """Points 4 to 7, as a second way."""
    shaped = isinstance(thing, tuple) and len(thing) == 2 and is_number(thing[0], 6) and thing[0] != 0
    if not shaped or not is_term(thing[1], thing[0]):
        return "shape"
    terms = terms_by_hand(thing)
    lent = [term[1] for term in terms.values() if term[0] == "lend"]
    waits = [(place, term[1]) for place, term in terms.items() if term[0] == "wait"]
    if len(lent) != len(set(lent)) or not all(is_around(terms, place, name) for place, name in waits):
        return "names"
    if len(terms) > 60 or max(len(place) for place in terms) > 12:
        return "great"
    return None


def spoilt(thing, odd):
    """The thing with each thing in it, one at a time, changed for the odd one, left out, doubled or made a list."""
    yield odd
    if isinstance(thing, tuple):
        yield list(thing)
        for at, inner in enumerate(thing):
            yield thing[:at] + thing[at + 1:]
            yield thing[:at] + (inner,) + thing[at:]
            for other in spoilt(inner, odd):
                yield thing[:at] + (other,) + thing[at + 1:]


class BooksCase(unittest.TestCase):
    def check(self, word, *things):
        for thing in things:
            with self.subTest(thing=thing):
                self.assertEqual(why_no_book(thing), word)

    def check_bodies(self, word, *bodies):
        self.check(word, *[(2, body) for body in bodies])


class TestShape(BooksCase):
    def test_each_kind_of_term_made_well(self):
        self.check_bodies(
            None, SET, ("add", 0, 1), ("add", 1, 1), ("copy", 1, 0), ("copy", 0, 0), ("look", 1, SET, ROW), ROW,
            ("row", SET), ("both", SET, SET), ("lend", 3, SET), ("row", ("lend", 3, SET), ("wait", 3)))

    def test_count_of_cells(self):
        self.check(None, (1, SET), (2, SET), (6, SET), (6, ROW))
        self.check("shape", (0, ROW), (7, ROW), (-1, ROW), (True, ROW), (False, ROW), ("2", ROW), (None, ROW),
                   ((2,), ROW), ([2], ROW), (10 ** 60, ROW))

    def test_cells_within_their_limits(self):
        for count in range(1, 7):
            top = count - 1
            good = [("set", top, 0), ("add", top, 0), ("add", 0, top), ("copy", top, 0), ("copy", 0, top),
                    ("look", top, ROW, ROW)]
            self.check(None, *[(count, body) for body in good])
            for cell in (count, -1, count + 10 ** 30):
                bad = [("set", cell, 0), ("add", cell, 0), ("add", 0, cell), ("copy", cell, 0), ("copy", 0, cell),
                       ("look", cell, ROW, ROW)]
                self.check("shape", *[(count, body) for body in bad])

    def test_numbers_within_their_limits(self):
        for number in range(10):
            self.check_bodies(None, ("set", 0, number), ("row", ("lend", number, SET), ("wait", number)))
        for number in (-1, 10, 10 ** 30, "0", None, (0,), [0]):
            self.check_bodies("shape", ("set", 0, number), ("lend", number, SET),
                              ("row", ("lend", 0, SET), ("wait", number)))

    def test_truths_are_no_whole_numbers(self):
        for truth in (True, False):
            self.check_bodies(
                "shape", ("set", truth, 0), ("set", 0, truth), ("add", truth, 0), ("add", 0, truth),
                ("copy", truth, 0), ("copy", 0, truth), ("look", truth, ROW, ROW), ("lend", truth, SET),
                ("row", ("lend", 0, SET), ("lend", 1, SET), ("wait", truth)))

    def test_how_many_parts(self):
        self.check_bodies(None, *[("row", *[SET] * many) for many in range(7)])
        self.check_bodies("shape", ("row", *[SET] * 7), ("row", *[SET] * 20))
        self.check_bodies(None, *[("both", *[SET] * many) for many in (2, 3, 4)])
        self.check_bodies("shape", *[("both", *[SET] * many) for many in (0, 1, 5, 20)])
        self.check_bodies("shape", *[("look", 0, *[SET] * many) for many in (0, 1, 3)])
        self.check_bodies("shape", *[("lend", 0, *[SET] * many) for many in (0, 2)])

    def test_how_many_numbers(self):
        self.check_bodies(
            "shape", ("set",), ("set", 0), ("set", 0, 1, 1), ("add",), ("add", 0), ("add", 0, 1, 1), ("copy",),
            ("copy", 0), ("copy", 0, 1, 1), ("set", 0, 1, SET), ("look",), ("look", 0), ("look", SET, SET),
            ("row", 0), ("row", 0, SET), ("both", 0, SET, SET), ("lend",), ("lend", 0), ("lend", SET), ("wait",),
            ("row", ("lend", 0, SET), ("wait",)), ("row", ("lend", 0, SET), ("wait", 0, 0)),
            ("row", ("lend", 0, SET), ("wait", 0, SET)))

    def test_lists_in_the_place_of_tuples(self):
        self.check("shape", [2, SET], (2, ["set", 0, 1]), (2, ["row"]), (2, ("row", ["row"])),
                   (2, ("row", [SET, SET])), (2, ("row", SET, ["set", 0, 1])), (2, ("both", SET, ["row"])),
                   (2, ("look", 0, SET, ["row"])), (2, ("lend", 0, ["row"])), (2, (["set"], 0, 1)))

    def test_books_of_other_lengths(self):
        self.check("shape", (), (2,), (SET,), (2, SET, SET), (2, SET, None), ("set", 0, 1), (SET, 2))

    def test_things_of_other_kinds(self):
        self.check("shape", *ODD_THINGS)
        self.check_bodies("shape", *[odd for odd in ODD_THINGS])
        self.check_bodies("shape", *[("row", SET, odd) for odd in ODD_THINGS])

    def test_things_within_one_another(self):
        for wrap in (lambda thing: [thing], lambda thing: (thing,), lambda thing: {"row": thing},
                     lambda thing: (2, thing), lambda thing: [2, thing], lambda thing: ("row", [thing])):
            self.check("shape", nested(94, wrap, SET), nested(40, wrap, (2, SET)))
            self.check_bodies("shape", nested(90, wrap, SET))
        self.check_bodies("shape", nested(90, lambda term: ("row", term), None),
                          nested(90, lambda term: ("look", 0, ROW, term), ("set", 0, 10)),
                          nested(90, lambda term: ("look", 0, term, ROW), ["row"]))
        self.check("shape", [None] * 599, (2, *[SET] * 100), (2, ("row", *[0] * 590)))

    def test_a_fault_anywhere_in_a_book(self):
        body = ("row", ("lend", 1, ("copy", 1, 0)), ("both", ("wait", 1), ("look", 0, ("add", 0, 1), ROW)))
        self.check(None, (2, body))
        words = set()
        for odd in ODD_THINGS:
            for thing in spoilt((2, body), odd):
                word = why_no_book(thing)
                words.add(word)
                if word != why_by_hand(thing):
                    self.fail(f"{thing!r} gives {word!r}")
        self.assertEqual(words, {None, "shape", "names"})


class TestNames(BooksCase):
    LEND = ("lend", 1, SET)
    WAIT = ("wait", 1)

    def test_one_name_lent_twice(self):
        lend = self.LEND
        self.check_bodies(
            "names", ("row", lend, lend), ("both", lend, lend), ("look", 0, lend, lend), ("lend", 1, lend),
            ("row", lend, ("row", ROW, ("lend", 1, ROW))), ("row", ("look", 0, lend, ROW), ("both", SET, lend)),
            ("row", lend, self.WAIT, lend, self.WAIT))
        self.check_bodies(None, ("row", lend, ("lend", 2, SET)), ("lend", 2, lend))

    def test_ten_names(self):
        ten = ("row", *[("both", ("lend", k, SET), ("lend", k + 5, SET)) for k in range(5)])
        self.check_bodies(None, ten)
        self.check_bodies("names", (*ten, ("lend", 9, SET)))

    def test_a_wait_behind_its_lend(self):
        lend, wait = self.LEND, self.WAIT
        self.check_bodies(
            None, ("row", lend, wait), ("row", lend, SET, ROW, wait), ("row", lend, wait, wait),
            ("row", lend, ("row", wait)), ("row", lend, SET, ("both", SET, ("row", ROW, ("both", wait, wait)))),
            ("row", lend, ("lend", 2, wait)), ("row", lend, ("lend", 2, wait), wait, ("wait", 2)),
            ("look", 0, ("row", lend, wait), SET), ("look", 0, SET, ("row", lend, ("both", wait, SET))),
            ("lend", 2, ("row", lend, wait)))

    def test_a_wait_where_its_name_is_not_around(self):
        lend, wait = self.LEND, self.WAIT
        self.check_bodies(
            "names", wait, ("row", wait), ("row", lend, ("wait", 2)),
            ("row", wait, lend), ("row", SET, wait, lend, wait),
            ("lend", 1, wait), ("row", ("lend", 1, wait)), ("row", ("lend", 1, ("row", SET, wait)), wait),
            ("row", ("row", lend), wait), ("row", ("both", lend, SET), wait), ("row", ("lend", 2, lend), wait),
            ("row", ("look", 0, lend, lend), wait), ("row", ("row", lend, wait), wait), ("lend", 2, ("row", wait)),
            ("both", lend, wait), ("both", wait, lend), ("both", ("row", lend), ("row", wait)),
            ("row", ("both", lend, ("row", wait))))

    def test_a_wait_within_a_look_there(self):
        lend, wait = self.LEND, self.WAIT
        self.check_bodies(
            "names", ("row", lend, ("look", 0, wait, SET)), ("row", lend, ("look", 0, SET, wait)),
            ("row", lend, ("row", ("look", 0, ("row", wait), SET))),
            ("row", lend, ("both", SET, ("look", 0, SET, ("both", SET, wait)))),
            ("row", lend, ("look", 0, ("row", ("lend", 2, SET), wait), SET)),
            ("look", 0, lend, wait), ("look", 0, ("row", lend, ("look", 0, wait, SET)), SET))
        self.check_bodies(None, ("row", lend, ("look", 0, ("row", ("lend", 2, SET), ("wait", 2)), SET), wait))

    def test_names_in_books_by_chance(self):
        words = set()
        for book, cells in books_by_chance(1, 200, 40):
            self.assertEqual(why_no_book(book), why_by_hand(book))
            for place, term in terms_by_hand(book).items():
                if term[0] in ("lend", "wait"):
                    moved = replaced(book[1], place, (term[0], (term[1] + 1) % 10, *term[2:]))
                    words.add(why_no_book((book[0], moved)))
                    self.assertEqual(why_no_book((book[0], moved)), why_by_hand((book[0], moved)))
        self.assertLessEqual({None, "names"}, words)


def replaced(term, place, other):
    """The term with the other one at the place."""
    if place == ():
        return other
    at = len(term) - len(parts_by_hand(term)) + place[0]
    return (*term[:at], replaced(term[at], place[1:], other), *term[at + 1:])


class TestGreat(BooksCase):
    def test_how_many_terms(self):
        for many in (8, 30, 59, 60):
            self.assertEqual(len(terms_by_hand((2, terms_in_all(many)))), many)
            self.check_bodies(None, terms_in_all(many))
        for many in (61, 62, 70):
            self.assertEqual(len(terms_by_hand((2, terms_in_all(many)))), many)
            self.check_bodies("great", terms_in_all(many))

    def test_within_how_many_others(self):
        self.check_bodies(None, chain(0), chain(1), chain(11), chain(12))
        self.check_bodies("great", chain(13), chain(14), chain(94), ("both", SET, chain(12)), ("row", ROW, chain(12)))
        self.check_bodies("great", nested(94, lambda term: ("look", 0, ROW, term), SET))

    def test_shape_ahead_of_names_ahead_of_great(self):
        twice = ("row", ("lend", 1, SET), ("lend", 1, SET))
        stray = ("wait", 4)
        deep = nested(50, lambda term: ("row", term), ROW)
        self.check_bodies("great", deep, ("row", deep, SET))
        self.check_bodies("names", ("row", deep, twice), ("row", twice, deep), ("row", stray, deep),
                          nested(80, lambda term: ("row", term), stray), ("row", *[block(13)] * 5, stray))
        self.check_bodies("shape", ("row", deep, twice, None), ("row", stray, ("set", 0, 10)),
                          ("row", None, deep), nested(80, lambda term: ("row", term), ("set", 2, 0)),
                          ("row", ("lend", 1, SET), ("lend", 1, ["row"])))
        self.check("shape", (0, deep), (7, stray), [2, twice], (2, deep, twice))

    def test_by_chance(self):
        words = set()
        for book, cells in books_by_chance(2, 300, 75):
            words.add(why_no_book(book))
            self.assertEqual(why_no_book(book), why_by_hand(book))
        self.assertEqual(words, {None, "great"})


class TestNeedBook(unittest.TestCase):
    def refused(self, thing, word):
        with self.assertRaises(NoBook) as caught:
            need_book(thing)
        self.assertEqual(caught.exception.fault, word)
        self.assertIsInstance(caught.exception, WorkError)

    def test_lets_books_by(self):
        for book in ((1, SET), (6, ROW), (2, chain(12)), (2, terms_in_all(60))):
            self.assertIsNone(need_book(book))

    def test_refuses_with_the_word(self):
        for odd in ODD_THINGS:
            self.refused(odd, "shape")
            self.refused((2, odd), "shape")
        self.refused((2, ("row", ("wait", 1), ("lend", 1, SET))), "names")
        self.refused((2, ("both", ("lend", 1, SET), ("lend", 1, SET))), "names")
        self.refused((2, chain(13)), "great")
        self.refused((2, terms_in_all(61)), "great")

    def test_goes_with_why_no_book(self):
        for book, cells in books_by_chance(3, 100, 75):
            word = why_no_book(book)
            if word is None:
                self.assertIsNone(need_book(book))
            else:
                self.refused(book, word)


class TestPlaces(unittest.TestCase):
    BOOK = (3, ("row", ("lend", 7, ("copy", 0, 1)), ("both", ("wait", 7), ("row",), ("look", 2, ("add", 1, 2), SET)),
                ("set", 2, 9)))

    def test_parts_of_each_kind(self):
        a, b, c, d = ("set", 0, 1), ("copy", 0, 1), ("row",), ("wait", 2)
        for term, parts in (
                (("set", 0, 1), ()), (("add", 0, 1), ()), (("copy", 0, 1), ()), (("wait", 2), ()), (("row",), ()),
                (("look", 0, a, b), (a, b)), (("look", 5, b, a), (b, a)), (("lend", 2, a), (a,)), (("row", a), (a,)),
                (("row", a, b, c, d, b, a), (a, b, c, d, b, a)), (("both", b, a), (b, a)),
                (("both", a, b, c, d), (a, b, c, d))):
            with self.subTest(term=term):
                self.assertEqual(parts_of(term), parts)
                self.assertIsInstance(parts_of(term), tuple)

    def test_all_places(self):
        self.assertEqual(all_places(self.BOOK), [
            (), (0,), (0, 0), (1,), (1, 0), (1, 1), (1, 2), (1, 2, 0), (1, 2, 1), (2,)])
        self.assertEqual(all_places((1, SET)), [()])
        self.assertEqual(all_places((1, ROW)), [()])

    def test_deed_places(self):
        self.assertEqual(deed_places(self.BOOK), [(0, 0), (1, 2), (1, 2, 0), (1, 2, 1), (2,)])
        self.assertEqual(deed_places((1, SET)), [()])
        self.assertEqual(deed_places((1, ROW)), [])
        self.assertEqual(deed_places((1, ("row", ("lend", 0, ROW), ("wait", 0), ("both", ROW, ROW)))), [])
        self.assertEqual(deed_places((1, ("look", 0, ROW, ("add", 0, 0)))), [(), (1,)])

    def test_term_at(self):
        body = self.BOOK[1]
        for place, term in (
                ((), body), ((0,), ("lend", 7, ("copy", 0, 1))), ((0, 0), ("copy", 0, 1)), ((1,), body[2]),
                ((1, 0), ("wait", 7)), ((1, 1), ("row",)), ((1, 2), ("look", 2, ("add", 1, 2), SET)),
                ((1, 2, 0), ("add", 1, 2)), ((1, 2, 1), SET), ((2,), ("set", 2, 9))):
            with self.subTest(place=place):
                self.assertEqual(term_at(self.BOOK, place), term)

    def test_by_chance(self):
        for book, cells in books_by_chance(4, 200, 60):
            terms = terms_by_hand(book)
            self.assertEqual(all_places(book), sorted(terms))
            deeds = [place for place in sorted(terms) if terms[place][0] in ("set", "add", "copy", "look")]
            self.assertEqual(deed_places(book), deeds)
            for place in terms:
                self.assertEqual(term_at(book, place), terms[place])
                self.assertEqual(parts_of(terms[place]), tuple(parts_by_hand(terms[place])))

    def test_books_beyond_the_limits(self):
        book = (2, ("row", *[SET] * 9, chain(20)))
        self.assertEqual(all_places(book), sorted(terms_by_hand(book)))
        self.assertEqual(deed_places(book), [*[(k,) for k in range(9)], (9,) + (0,) * 20])
        self.assertEqual(term_at(book, (9,) + (0,) * 20), SET)


class TestNothingIsChanged(unittest.TestCase):
    def test_things_handed_in(self):
        things = [
            [2, ["row", [SET]]], {"a": [1, {"b": ()}]}, (2, ("row", [SET, SET])), (2, ["set", 0, {}]),
            (2, ("row", SET, [SET])), [[], [[]], {}], (2, ("lend", [1], SET)), (2, chain(13)), (2, SET)]
        for thing in things:
            kept = copy.deepcopy(thing)
            why_no_book(thing)
            self.assertEqual(thing, kept)
            try:
                need_book(thing)
            except NoBook:
                pass
            self.assertEqual(thing, kept)
            self.assertEqual(repr(thing), repr(kept))

    def test_a_told_list_is_the_askers_own(self):
        book = TestPlaces.BOOK
        for ask in (all_places, deed_places):
            first = ask(book)
            kept = list(first)
            first.reverse()
            first.append(None)
            self.assertEqual(ask(book), kept)
            self.assertIsNot(ask(book), ask(book))

    def test_a_changed_thing_is_judged_anew(self):
        inner = ["row"]
        thing = (2, inner)
        self.assertEqual(why_no_book(thing), "shape")
        self.assertIsNone(why_no_book((2, tuple(inner))))
        inner.clear()
        self.assertEqual(why_no_book((2, tuple(inner))), "shape")


if __name__ == "__main__":
    unittest.main()
