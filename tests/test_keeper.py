"""Point 20: the one-hand run done deed by deed, with the clashes kept while it is done."""

import copy
import itertools
import time
import unittest

from helping import (
    Slow, before_by_hand, books_by_chance, clashes_by_hand, deeds_by_hand, many_roads, mended_like, places_done,
    side_by_side, terms_by_hand)
from sidework.books import need_book
from sidework.errors import NoDeed, WorkError
from sidework.keeper import Keeper
from sidework.roads import is_before
from sidework.runs import run

ROW = ("row",)


class KeeperCase(unittest.TestCase):
    def refused(self, keeper, p, q):
        kept = (keeper.done(), keeper.cells())
        with self.assertRaises(NoDeed) as caught:
            keeper.before(p, q)
        self.assertIsInstance(caught.exception, WorkError)
        self.assertEqual((keeper.done(), keeper.cells()), kept)

    def check(self, book, cells):
        """Steps a keeper to the end and beyond beside a slow work, and gives the clashes told."""
        keeper, slow = Keeper(book, cells), Slow(book, cells)
        places = places_done(run(book, cells)[0])
        pairs = {frozenset(pair) for pair in clashes_by_hand(book, sorted(places))}
        clashes = []
        for place in places:
            self.assertEqual((keeper.done(), keeper.cells()), (slow.done, tuple(slow.now)))
            clashing = sorted(p for p in places_done(slow.done) if {p, place} in pairs)
            clashes.append(clashing[0] if clashing else None)
            slow.do(place)
            self.assertEqual(keeper.step(), (place, clashes[-1]))
        for _ in range(3):
            self.assertIsNone(keeper.step())
            self.assertEqual((keeper.done(), keeper.cells()), run(book, cells))
        return clashes


class TestStep(KeeperCase):
    def test_no_deeds(self):
        for body in (ROW, ("both", ROW, ROW), ("row", ("lend", 1, ROW), ("wait", 1))):
            keeper = Keeper((2, body), (3, 4))
            for _ in range(3):
                self.assertIsNone(keeper.step())
                self.assertEqual(keeper.done(), [])
                self.assertEqual(keeper.cells(), (3, 4))

    def test_one_deed(self):
        keeper = Keeper((1, ("add", 0, 0)), (6,))
        self.assertEqual(keeper.step(), ((), None))
        self.assertEqual((keeper.done(), keeper.cells()), ([((), (6, 6), 2)], (2,)))
        self.assertIsNone(keeper.step())
        self.assertIsNone(keeper.step())

    def test_step_by_step(self):
        keeper = Keeper((2, ("row", ("lend", 1, ("set", 0, 7)), ("add", 1, 0), ("wait", 1), ("copy", 0, 1))), (1, 2))
        self.assertEqual((keeper.done(), keeper.cells()), ([], (1, 2)))
        self.assertEqual(keeper.step(), ((0, 0), None))
        self.assertEqual((keeper.done(), keeper.cells()), ([((0, 0), (), 7)], (7, 2)))
        self.assertEqual(keeper.step(), ((1,), (0, 0)))
        self.assertEqual((keeper.done(), keeper.cells()), ([((0, 0), (), 7), ((1,), (2, 7), 9)], (7, 9)))
        self.assertEqual(keeper.step(), ((3,), None))
        self.assertEqual(keeper.cells(), (9, 9))
        self.assertIsNone(keeper.step())

    def test_kinds_of_values(self):
        keeper = Keeper((1, ("both", ("set", 0, 1), ("set", 0, 2))), (0,))
        told = [keeper.step(), keeper.step()]
        self.assertEqual(told, [((0,), None), ((1,), (0,))])
        for pair in told:
            self.assertIsInstance(pair, tuple)
        self.assertIsInstance(keeper.done(), list)
        self.assertIsInstance(keeper.cells(), tuple)
        for deed in keeper.done():
            self.assertIsInstance(deed, tuple)

    def test_the_least_of_several_clashes(self):
        self.assertEqual(self.check((2, ("both", ("set", 1, 1), ("set", 0, 1), ("set", 0, 2), ("set", 0, 3))), (0, 0)),
                         [None, None, (1,), (1,)])

    def test_a_look_that_clashes(self):
        book = (2, ("both", ("set", 0, 1), ("look", 0, ("set", 1, 2), ROW), ("copy", 1, 0)))
        self.assertEqual(self.check(book, (0, 0)), [None, (0,), None, (0,)])

    def test_what_comes_before_does_not_clash(self):
        book = (1, ("row", ("set", 0, 1), ("add", 0, 0), ("look", 0, ("set", 0, 3), ROW), ("copy", 0, 0)))
        self.assertEqual(self.check(book, (0,)), [None] * 5)

    def test_by_chance_beside_the_slow_way(self):
        found = []
        for seed, count, size in ((81, 250, 12), (82, 20, 40)):
            for book, cells in books_by_chance(seed, count, size):
                found += self.check(book, cells)
        self.assertGreater(len([clash for clash in found if clash is not None]), 200)
        self.assertGreater(found.count(None), 200)

    def test_great_books_in_seconds(self):
        for book in (many_roads(), (6, side_by_side([("set", k % 6, 1) for k in range(44)])), mended_like()):
            begun = time.monotonic()
            keeper = Keeper(book, (1,) * book[0])
            while keeper.step() is not None:
                pass
            done = places_done(keeper.done())
            for p, q in itertools.product(done, done):
                keeper.before(p, q)
            self.assertLess(time.monotonic() - begun, 5)
            self.assertEqual((keeper.done(), keeper.cells()), run(book, (1,) * book[0]))


class TestBefore(KeeperCase):
    LOOK = ("look", 0, ("set", 2, 3), ("set", 2, 4))
    BOOK = (3, ("row", ("set", 0, 1), ("both", ("set", 1, 2), LOOK), ("set", 0, 5)))
    DONE = [(0,), (1, 0), (1, 1), (1, 1, 0), (2,)]

    def ended(self):
        keeper = Keeper(self.BOOK, (0, 0, 0))
        while keeper.step() is not None:
            pass
        self.assertEqual(places_done(keeper.done()), self.DONE)
        return keeper

    def test_all_pairs_of_what_is_done(self):
        keeper, before = self.ended(), before_by_hand(self.BOOK)
        for p, q in itertools.product(self.DONE, self.DONE):
            told = keeper.before(p, q)
            self.assertIsInstance(told, bool)
            self.assertEqual(told, (p, q) in before)
        self.assertTrue(keeper.before((1, 1), (1, 1, 0)))
        self.assertFalse(keeper.before((1, 1, 0), (1, 1)))
        self.assertFalse(keeper.before((1, 0), (1, 1, 0)))

    def test_one_place_is_not_before_itself(self):
        keeper = self.ended()
        for place in self.DONE:
            self.assertIs(keeper.before(place, place), False)

    def test_not_done_yet(self):
        keeper = Keeper(self.BOOK, (0, 0, 0))
        for many in range(len(self.DONE) + 1):
            for p, q in itertools.product(self.DONE, self.DONE):
                if p in self.DONE[:many] and q in self.DONE[:many]:
                    self.assertIs(keeper.before(p, q), is_before(self.BOOK, p, q))
                else:
                    self.refused(keeper, p, q)
            keeper.step()

    def test_no_term_no_deed_and_what_the_look_did_not_take(self):
        keeper = self.ended()
        for place in ((), (1,), (3,), (9,), (-1,), (0, 0), (1, 2), (1, 1, 1), (1, 1, 2), (0,) * 30, (10 ** 60,)):
            for p in self.DONE:
                self.refused(keeper, p, place)
                self.refused(keeper, place, p)
            self.refused(keeper, place, place)

    def test_no_deeds(self):
        keeper = Keeper((1, ROW), (0,))
        self.refused(keeper, (), ())
        keeper.step()
        self.refused(keeper, (), ())

    def test_the_body_as_the_one_deed(self):
        keeper = Keeper((1, ("set", 0, 1)), (0,))
        self.refused(keeper, (), ())
        keeper.step()
        self.assertIs(keeper.before((), ()), False)
        self.refused(keeper, (), (0,))

    def test_by_chance(self):
        many = 0
        for seed, count, size in ((84, 80, 14), (85, 10, 50)):
            for book, cells in books_by_chance(seed, count, size):
                before = before_by_hand(book)
                keeper = Keeper(book, cells)
                done = []
                while (step := keeper.step()) is not None:
                    done.append(step[0])
                    for p in done:
                        self.assertEqual(keeper.before(p, step[0]), (p, step[0]) in before)
                        self.assertIs(keeper.before(step[0], p), False)
                for p, q in itertools.product(deeds_by_hand(book), done):
                    if p in done:
                        self.assertEqual(keeper.before(p, q), (p, q) in before)
                        many += keeper.before(p, q)
                    else:
                        self.refused(keeper, p, q)
                        self.refused(keeper, q, p)
        self.assertGreater(many, 300)


class TestNothingIsChanged(unittest.TestCase):
    BOOK = (2, ("row", ("set", 0, 1), ("both", ("set", 1, 1), ("add", 1, 0)), ("look", 1, ("copy", 0, 1), ROW)))

    def test_told_lists_changed_by_the_asker(self):
        keeper, calm = Keeper(self.BOOK, (3, 4)), Keeper(self.BOOK, (3, 4))
        while True:
            told = keeper.done()
            told.reverse()
            told.append(None)
            told.insert(0, ((1, 0), (), 9))
            self.assertEqual(keeper.done(), calm.done())
            self.assertEqual(keeper.cells(), calm.cells())
            step = keeper.step()
            self.assertEqual(step, calm.step())
            if step is None:
                break
        self.assertEqual(keeper.done(), run(self.BOOK, (3, 4))[0])

    def test_an_early_list_stays_as_it_was(self):
        keeper = Keeper(self.BOOK, (3, 4))
        keeper.step()
        early, cells = keeper.done(), keeper.cells()
        kept = copy.deepcopy(early)
        while keeper.step() is not None:
            pass
        self.assertEqual((early, cells), (kept, (1, 4)))

    def test_book_and_cells_stay(self):
        book, cells = copy.deepcopy(self.BOOK), (3, 4)
        need_book(book)
        keeper = Keeper(book, cells)
        while keeper.step() is not None:
            pass
        self.assertEqual((book, cells), (self.BOOK, (3, 4)))
        self.assertEqual(terms_by_hand(book), terms_by_hand(self.BOOK))

    def test_a_refused_question_leaves_nothing_behind(self):
        keeper = Keeper(self.BOOK, (3, 4))
        for _ in range(len(run(self.BOOK, (3, 4))[0])):
            with self.assertRaises(NoDeed):
                keeper.before((0,), (9,))
            with self.assertRaises(NoDeed):
                keeper.before((9,), (0,))
            keeper.step()
        self.assertEqual((keeper.done(), keeper.cells()), run(self.BOOK, (3, 4)))

    def test_two_keepers_side_by_side(self):
        other_book = (2, ("both", ("set", 0, 1), ("set", 0, 2), ("add", 1, 1), ("add", 1, 0)))
        one, other, third = Keeper(self.BOOK, (3, 4)), Keeper(other_book, (5, 6)), Keeper(self.BOOK, (0, 9))
        told = {one: [], other: [], third: []}
        for keeper in (one, other, third, other, one, one, third, other, other, other, third, one, one, third, third):
            told[keeper].append(keeper.step())
        for keeper, book, cells in ((one, self.BOOK, (3, 4)), (other, other_book, (5, 6)), (third, self.BOOK, (0, 9))):
            alone = Keeper(book, cells)
            self.assertEqual(told[keeper], [alone.step() for _ in told[keeper]])
            self.assertEqual((keeper.done(), keeper.cells()), (alone.done(), alone.cells()))


if __name__ == "__main__":
    unittest.main()
