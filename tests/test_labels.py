"""Point 14: labels of deeds where nothing is lent, and whether labels are right, lends or not."""

import copy
import unittest

from helping import (
    Chance, before_by_hand, books_by_chance, deeds_by_hand, many_roads, parts_by_hand, side_by_side, some_by_chance,
    somes_by_chance, terms_by_hand)
from sidework.books import need_book
from sidework.errors import HasLend, WorkError
from sidework.labels import are_labels, labels
from sidework.roads import is_before
from sidework.runs import run

SET = ("set", 0, 1)
ROW = ("row",)


def lends(book):
    return any(term[0] == "lend" for term in terms_by_hand(book).values())


def without_lends(seed, count, size):
    """So many pairs of a book without lends and some of its deeds."""
    return [(book, some) for book, some in somes_by_chance(seed, count, size) if not lends(book)]


def labels_by_hand(book, some):
    """Point 14 word by word, as a second way."""
    forwards, backwards = [], []

    def visit(place, term, met, turned):
        if place in some:
            met.append(place)
        numbers = list(range(len(parts_by_hand(term))))
        if turned and term[0] == "both":
            numbers = numbers[::-1]
        for at in numbers:
            visit((*place, at), parts_by_hand(term)[at], met, turned)

    visit((), book[1], forwards, False)
    visit((), book[1], backwards, True)
    return {place: (forwards.index(place), backwards.index(place)) for place in some}


def are_labels_by_hand(book, some, thing):
    before = before_by_hand(book)
    if set(thing) != set(some):
        return False
    less = {(p, q) for p in some for q in some if thing[p][0] < thing[q][0] and thing[p][1] < thing[q][1]}
    return less == {(p, q) for p, q in before if p in some and q in some}


class TestLabels(unittest.TestCase):
    def check(self, body, some, told):
        book = (2, body)
        need_book(book)
        self.assertEqual(labels(book, some), told)
        self.assertIsInstance(labels(book, some), dict)
        self.assertIs(are_labels(book, some, told), True)

    def test_one_deed(self):
        self.check(SET, [()], {(): (0, 0)})
        self.check(SET, [], {})
        self.check(ROW, [], {})

    def test_a_row(self):
        self.check(("row", SET, ROW, SET, SET), [(0,), (2,), (3,)], {(0,): (0, 0), (2,): (1, 1), (3,): (2, 2)})

    def test_boths(self):
        self.check(("both", SET, SET), [(0,), (1,)], {(0,): (0, 1), (1,): (1, 0)})
        self.check(("both", SET, SET, SET, SET), [(k,) for k in range(4)], {(k,): (k, 3 - k) for k in range(4)})

    def test_numbers_are_counted_among_some_only(self):
        self.check(("both", SET, SET, SET, SET), [(1,), (3,)], {(1,): (0, 1), (3,): (1, 0)})
        self.check(("row", SET, SET, SET), [(2,)], {(2,): (0, 0)})
        self.check(("row", SET, SET, SET), [], {})

    def test_a_look_ahead_of_its_parts(self):
        body = ("row", ("look", 0, ("both", SET, ("row", SET, SET)), SET), SET)
        self.check(body, [(0,), (0, 0, 0), (0, 0, 1, 0), (0, 0, 1, 1), (1,)], {
            (0,): (0, 0), (0, 0, 0): (1, 3), (0, 0, 1, 0): (2, 1), (0, 0, 1, 1): (3, 2), (1,): (4, 4)})
        self.check(body, [(0,), (0, 1), (1,)], {(0,): (0, 0), (0, 1): (1, 1), (1,): (2, 2)})

    def test_a_both_of_rows_in_a_both(self):
        body = ("both", ("row", SET, ("both", SET, SET)), ("row", SET, SET))
        self.check(body, [(0, 0), (0, 1, 0), (0, 1, 1), (1, 0), (1, 1)], {
            (0, 0): (0, 2), (0, 1, 0): (1, 4), (0, 1, 1): (2, 3), (1, 0): (3, 0), (1, 1): (4, 1)})

    def test_of_none_a_part_and_all_of_a_run(self):
        chance = Chance(31)
        for book, cells in books_by_chance(32, 150, 40):
            if lends(book):
                continue
            done = sorted(place for place, reads, wrote in run(book, cells)[0])
            part = [place for place in done if chance.dice.random() < 0.5]
            before = before_by_hand(book)
            for some in ([], part, done):
                told = labels(book, some)
                self.assertEqual(told, labels_by_hand(book, some))
                self.assertIs(are_labels(book, some, told), True)
                for p in some:
                    for q in some:
                        less = told[p][0] < told[q][0] and told[p][1] < told[q][1]
                        self.assertEqual(less, (p, q) in before)

    def test_beside_is_before(self):
        for book, some in without_lends(33, 80, 15):
            told = labels(book, some)
            for p in some:
                for q in some:
                    less = told[p][0] < told[q][0] and told[p][1] < told[q][1]
                    self.assertEqual(less, is_before(book, p, q))

    def test_great_books(self):
        for book in (many_roads(), (1, side_by_side([SET] * 45)), (1, ("row", *[("row", *[SET] * 6)] * 6))):
            some = deeds_by_hand(book)
            told = labels(book, some)
            self.assertEqual(told, labels_by_hand(book, some))
            self.assertIs(are_labels(book, some, told), True)


class TestHasLend(unittest.TestCase):
    def refused(self, book, some):
        need_book(book)
        kept = list(some)
        with self.assertRaises(HasLend) as caught:
            labels(book, some)
        self.assertIsInstance(caught.exception, WorkError)
        self.assertEqual(some, kept)

    def test_where_something_is_lent(self):
        lend = ("lend", 1, SET)
        self.refused((2, lend), [(0,)])
        self.refused((2, ("row", lend, ("wait", 1), SET)), [(0, 0), (2,)])
        self.refused((2, ("lend", 1, ROW)), [])
        self.refused((2, ("row", SET, ("look", 0, SET, ("both", ROW, ("row", lend))))), [(0,), (1,), (1, 0)])

    def test_where_some_has_nothing_of_it(self):
        body = ("row", SET, ("both", SET, ("lend", 1, SET)), SET)
        for some in ([], [(0,)], [(0,), (2,)], [(0,), (1, 0), (1, 1, 0), (2,)]):
            self.refused((2, body), some)

    def test_by_chance(self):
        chance = Chance(34)
        for book, cells in books_by_chance(34, 100, 30):
            for some in ([], some_by_chance(chance, book)):
                if lends(book):
                    self.refused(book, some)
                else:
                    self.assertEqual(sorted(labels(book, some)), some)


class TestAreLabels(unittest.TestCase):
    BOOK = (2, ("row", SET, ("both", SET, ("row", SET, SET)), ("look", 0, SET, ("both", SET, SET))))
    SOME = [(0,), (1, 0), (1, 1, 0), (1, 1, 1), (2,), (2, 1, 0), (2, 1, 1)]

    def judged(self, thing, book=None, some=None):
        book, some = book or self.BOOK, self.SOME if some is None else some
        told = are_labels(book, some, thing)
        self.assertIsInstance(told, bool)
        self.assertEqual(told, are_labels_by_hand(book, some, thing))
        return told

    def right(self):
        return labels(self.BOOK, self.SOME)

    def test_what_labels_tells(self):
        self.assertTrue(self.judged(self.right()))

    def test_keys_in_another_order(self):
        self.assertTrue(self.judged(dict(reversed(self.right().items()))))

    def test_a_key_left_out(self):
        for place in self.SOME:
            thing = self.right()
            del thing[place]
            self.assertFalse(self.judged(thing))
        self.assertFalse(self.judged({}))

    def test_a_key_put_in(self):
        self.assertFalse(self.judged({**self.right(), (2, 0): (9, 9)}))
        self.assertFalse(self.judged({(): (0, 0)}, (1, SET), []))
        for place in self.SOME:
            thing = self.right()
            label = thing.pop(place)
            self.assertFalse(self.judged({**thing, (2, 0): label}))
            less = [one for one in self.SOME if one != place]
            self.assertTrue(self.judged(thing, some=less))
            self.assertFalse(self.judged(self.right(), some=less))

    def test_no_key(self):
        self.assertTrue(self.judged({}, some=[]))
        self.assertTrue(self.judged({}, (1, ROW), []))

    def test_labels_exchanged(self):
        for p in self.SOME:
            for q in self.SOME:
                thing = self.right()
                thing[p], thing[q] = thing[q], thing[p]
                self.judged(thing)
        thing = self.right()
        thing[(0,)], thing[(1, 0)] = thing[(1, 0)], thing[(0,)]
        self.assertFalse(self.judged(thing))
        thing = self.right()
        thing[(2, 1, 0)], thing[(2, 1, 1)] = thing[(2, 1, 1)], thing[(2, 1, 0)]
        self.assertTrue(self.judged(thing))

    def test_numbers_exchanged(self):
        turned = {place: (b, f) for place, (f, b) in self.right().items()}
        self.assertTrue(self.judged(turned))

    def test_numbers_changed(self):
        told = {True: 0, False: 0}
        for place in self.SOME:
            for f in range(-2, 9):
                for b in range(-2, 9):
                    told[self.judged({**self.right(), place: (f, b)})] += 1
        self.assertTrue(told[True] > 20 and told[False] > 20)

    def test_other_numbers_that_are_right_all_the_same(self):
        for step, start in ((1, -20), (3, 7), (10 ** 60, -10 ** 61)):
            thing = {place: (f * step + start, b * step - start) for place, (f, b) in self.right().items()}
            self.assertTrue(self.judged(thing))
        thing = {place: (-f, -b) for place, (f, b) in self.right().items()}
        self.assertFalse(self.judged(thing))

    def test_alike_numbers(self):
        both, row = (2, ("both", SET, SET)), (2, ("row", SET, SET))
        some = [(0,), (1,)]
        for one, other, in_both, in_row in (
                ((0, 0), (0, 0), True, False), ((0, 0), (0, 1), True, False), ((0, 0), (1, 0), True, False),
                ((0, 0), (1, 1), False, True), ((0, 1), (1, 0), True, False), ((1, 1), (0, 0), False, False),
                ((-5, -7), (-4, -6), False, True), ((-1, -1), (-1, 0), True, False)):
            thing = {(0,): one, (1,): other}
            self.assertEqual(self.judged(thing, both, some), in_both)
            self.assertEqual(self.judged(thing, row, some), in_row)

    def test_books_with_lends(self):
        book = (1, ("row", SET, ("lend", 1, SET), SET, ("wait", 1), SET))
        need_book(book)
        some = [(0,), (1, 0), (2,), (4,)]
        self.assertTrue(self.judged({(0,): (0, 0), (1, 0): (1, 2), (2,): (2, 1), (4,): (3, 3)}, book, some))
        self.assertFalse(self.judged({(0,): (0, 0), (1, 0): (1, 1), (2,): (2, 2), (4,): (3, 3)}, book, some))
        self.assertTrue(self.judged({}, book, []))

    def test_by_chance(self):
        chance = Chance(35)
        told = {True: 0, False: 0}
        for book, some in somes_by_chance(36, 300, 12):
            right = labels_by_hand(book, some)
            told[self.judged(right, book, some)] += 1
            if some:
                place = chance.dice.choice(some)
                thing = {**right, place: (right[place][0] + chance.dice.randint(-2, 2), right[place][1])}
                told[self.judged(thing, book, some)] += 1
        self.assertTrue(told[True] > 100 and told[False] > 50)


class TestNothingIsChanged(unittest.TestCase):
    def test_what_is_handed_in(self):
        book, some = TestAreLabels.BOOK, list(TestAreLabels.SOME)
        thing = labels(book, some)
        kept = copy.deepcopy(thing)
        are_labels(book, some, thing)
        are_labels(book, some[1:], thing)
        self.assertEqual((some, thing, list(thing)), (TestAreLabels.SOME, kept, list(kept)))

    def test_a_told_dict_is_the_askers_own(self):
        book, some = TestAreLabels.BOOK, list(TestAreLabels.SOME)
        first = labels(book, some)
        kept = copy.deepcopy(first)
        first[(0,)] = None
        first.pop((1, 0))
        self.assertEqual(labels(book, some), kept)
        some.clear()
        self.assertEqual(labels(book, TestAreLabels.SOME), kept)
        self.assertIs(are_labels(book, TestAreLabels.SOME, kept), True)


if __name__ == "__main__":
    unittest.main()
