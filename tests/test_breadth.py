"""Points 15 and 16: rows, as few as any, sides, as great as any, and stamps by rows."""

import copy
import itertools
import time
import unittest

from helping import (
    Chance, are_apart_by_hand, before_by_hand, books_by_chance, deeds_by_hand, many_roads, mended_like, side_by_side,
    some_by_chance, somes_by_chance, terms_by_hand)
from sidework.books import need_book
from sidework.breadth import are_rows, is_side, rows_and_side, stamps
from sidework.errors import NoRows, WorkError
from sidework.roads import is_before
from sidework.runs import run

SET = ("set", 0, 1)
ROW = ("row",)
STRANGE = ((9,), (-1,), (0, 0, 0), (0, 5), (0,) * 30, (10 ** 60,))


def are_rows_by_hand(before, some, rows):
    """Point 15 word by word, as a second way."""
    told = [place for row in rows for place in row]
    if [] in rows or set(told) != set(some) or len(told) != len(some):
        return False
    return all((row[at], row[at + 1]) in before for row in rows for at in range(len(row) - 1))


def is_side_by_hand(before, some, side):
    """Point 15 word by word, as a second way."""
    if not set(side) <= set(some) or any(side[at] >= side[at + 1] for at in range(len(side) - 1)):
        return False
    return not any((p, q) in before or (q, p) in before for p in side for q in side)


def greatest_side(before, some):
    """How many places a side has at most, each list of some being tried."""
    for many in range(len(some), -1, -1):
        for side in itertools.combinations(some, many):
            if not any(pair in before for pair in itertools.permutations(side, 2)):
                return many
    return 0


def fewest_rows(before, some):
    """How many rows there are at least, each way to put the places into rows being tried."""
    if not some:
        return 0
    best = len(some)

    def put(at, lasts):
        nonlocal best
        if len(lasts) >= best:
            return
        if at == len(order):
            best = len(lasts)
            return
        place = order[at]
        for number, last in enumerate(lasts):
            if (last, place) in before:
                put(at + 1, [*lasts[:number], place, *lasts[number + 1:]])
        put(at + 1, [*lasts, place])

    # So each place comes behind all that come before it.
    order = sorted(some, key=lambda q: len([p for p in some if (p, q) in before]))
    put(0, [])
    return best


class BreadthCase(unittest.TestCase):
    def check(self, book, some):
        rows, side = rows_and_side(book, some)
        before = before_by_hand(book)
        self.assertTrue(are_rows_by_hand(before, some, rows))
        self.assertTrue(is_side_by_hand(before, some, side))
        self.assertEqual(len(rows), len(side))
        self.assertIs(are_rows(book, some, rows), True)
        self.assertIs(is_side(book, some, side), True)
        return len(side)


class TestRowsAndSide(BreadthCase):
    def test_no_deeds(self):
        for book in ((1, ROW), (1, SET), many_roads()):
            self.assertEqual(rows_and_side(book, []), ([], []))

    def test_one_deed(self):
        self.assertEqual(rows_and_side((1, SET), [()]), ([[()]], [()]))
        self.assertEqual(rows_and_side(many_roads(), [(5, 2)]), ([[(5, 2)]], [(5, 2)]))

    def test_kinds_of_values(self):
        told = rows_and_side((1, ("both", SET, SET)), [(0,), (1,)])
        self.assertIsInstance(told, tuple)
        self.assertIsInstance(told[0], list)
        self.assertIsInstance(told[1], list)
        for row in told[0]:
            self.assertIsInstance(row, list)

    def test_a_row_and_a_both(self):
        some = [(0,), (1,), (2,)]
        self.assertEqual(rows_and_side((1, ("row", SET, SET, SET)), some)[0], [some])
        self.assertEqual(rows_and_side((1, ("both", SET, SET, SET)), some)[1], some)
        self.assertEqual(self.check((1, ("row", SET, SET, SET)), some), 1)
        self.assertEqual(self.check((1, ("both", SET, SET, SET)), some), 3)

    def test_a_first_try_that_must_be_undone(self):
        body = ("row", ("lend", 1, SET), SET, ("lend", 2, SET), ("wait", 1), SET, ("lend", 3, SET), ("wait", 2), SET)
        book = (1, body)
        some = deeds_by_hand(book)
        before = before_by_hand(book)
        for many in range(len(some) + 1):
            for few in itertools.combinations(some, many):
                self.assertEqual(self.check(book, list(few)), fewest_rows(before, list(few)))

    def test_by_chance_beside_all_that_can_be_tried(self):
        broad = set()
        for book, some in somes_by_chance(41, 400, 16):
            if len(some) <= 9:
                before = before_by_hand(book)
                many = self.check(book, some)
                broad.add(many)
                self.assertEqual(many, greatest_side(before, some))
                self.assertEqual(many, fewest_rows(before, some))
        self.assertGreater(len(broad), 5)

    def test_by_chance(self):
        for book, some in somes_by_chance(42, 40, 60):
            self.check(book, some)

    def test_what_a_run_did(self):
        for book, cells in books_by_chance(43, 20, 60):
            self.check(book, sorted(place for place, reads, wrote in run(book, cells)[0])[:50])

    def test_fifty_deeds_in_seconds(self):
        six = ("row", *[SET] * 6)
        start = time.monotonic()
        for body, many in (
                (many_roads()[1], 4), (side_by_side([SET] * 45), 45), (("row", *[six] * 6, six), 1),
                (side_by_side([SET] * 50), 50), (side_by_side([six] * 8), 8),
                (side_by_side([("row", side_by_side([SET] * 5), side_by_side([SET] * 5))] * 5), 25),
                (("row", *[side_by_side([SET] * 10)] * 5), 10)):
            book = (4, body)
            some = deeds_by_hand(book)[:50]
            rows, side = rows_and_side(book, some)
            self.assertEqual((len(rows), len(side)), (many, many))
            self.assertTrue(are_rows(book, some, rows) and is_side(book, some, side))
            self.assertEqual(len(stamps(book, some, rows)), len(some))
        self.assertLess(time.monotonic() - start, 10)

    def test_books_as_mending_makes_them(self):
        book = mended_like()
        self.assertGreater(len(terms_by_hand(book)), 60)
        some = deeds_by_hand(book)
        for few in (some[:50], some[::2], some[-30:], []):
            self.check(book, few)


class TestAreRows(BreadthCase):
    BOOK = (1, ("row", SET, ("both", SET, ("row", SET, SET)), SET))
    SOME = [(0,), (1, 0), (1, 1, 0), (1, 1, 1), (2,)]
    RIGHT = [[(0,), (1, 0)], [(1, 1, 0), (1, 1, 1), (2,)]]

    def judged(self, rows, some=None):
        some = self.SOME if some is None else some
        told = are_rows(self.BOOK, some, rows)
        self.assertIsInstance(told, bool)
        self.assertEqual(told, are_rows_by_hand(before_by_hand(self.BOOK), some, rows))
        return told

    def test_right_ones(self):
        self.assertTrue(self.judged(self.RIGHT))
        self.assertTrue(self.judged(self.RIGHT[::-1]))
        self.assertTrue(self.judged([[place] for place in self.SOME]))
        self.assertTrue(self.judged([[(0,), (1, 0), (2,)], [(1, 1, 0), (1, 1, 1)]]))

    def test_no_lists(self):
        self.assertTrue(self.judged([], []))
        self.assertFalse(self.judged([]))
        self.assertFalse(self.judged([], [(0,)]))

    def test_a_row_that_is_empty(self):
        self.assertFalse(self.judged([[]], []))
        self.assertFalse(self.judged([[]]))
        for at in range(3):
            self.assertFalse(self.judged([*self.RIGHT[:at], [], *self.RIGHT[at:]]))

    def test_places_left_out(self):
        for place in self.SOME:
            rows = [[one for one in row if one != place] for row in self.RIGHT]
            self.assertFalse(self.judged(rows))
            self.assertTrue(self.judged(rows, [one for one in self.SOME if one != place]))

    def test_places_told_twice(self):
        for place in self.SOME:
            self.assertFalse(self.judged([*self.RIGHT, [place]]))
            for row in (0, 1):
                for at in range(len(self.RIGHT[row]) + 1):
                    rows = copy.deepcopy(self.RIGHT)
                    rows[row].insert(at, place)
                    self.assertFalse(self.judged(rows))

    def test_places_not_of_some(self):
        for place in ((), (1,), (1, 1), (3,), *STRANGE):
            self.assertFalse(self.judged([*self.RIGHT, [place]]))
            self.assertFalse(self.judged([[place, *self.RIGHT[0]], self.RIGHT[1]]))
            self.assertFalse(self.judged([[place]], []))
        self.assertFalse(self.judged(self.RIGHT, self.SOME[1:]))
        self.assertFalse(self.judged([[(0,), (2,)]], [(0,)]))

    def test_a_place_in_the_stead_of_another_one(self):
        for place in ((), (1,), *STRANGE):
            for row in (0, 1):
                for at in range(len(self.RIGHT[row])):
                    rows = copy.deepcopy(self.RIGHT)
                    rows[row][at] = place
                    self.assertFalse(self.judged(rows))

    def test_in_another_order(self):
        for row in (0, 1):
            for order in itertools.permutations(self.RIGHT[row]):
                rows = list(self.RIGHT)
                rows[row] = list(order)
                self.assertEqual(self.judged(rows), list(order) == self.RIGHT[row])

    def test_side_by_side_in_one_row(self):
        self.assertFalse(self.judged([[(0,), (1, 0), (1, 1, 0)], [(1, 1, 1), (2,)]]))
        self.assertFalse(self.judged([self.SOME]))
        self.assertFalse(self.judged([[(1, 0), (1, 1, 0)], [(0,)], [(1, 1, 1), (2,)]]))

    def test_by_chance(self):
        chance = Chance(44)
        told = {True: 0, False: 0}
        for book, some in somes_by_chance(45, 300, 14):
            before = before_by_hand(book)
            rows = [[] for _ in range(chance.dice.randint(1, 4))]
            for place in some:
                chance.dice.choice(rows).append(place)
            if chance.dice.random() < 0.8:
                rows = [row for row in rows if row]
            right = are_rows_by_hand(before, some, rows)
            told[right] += 1
            self.assertIs(are_rows(book, some, rows), right)
        self.assertTrue(told[True] > 30 and told[False] > 30)


class TestIsSide(BreadthCase):
    BOOK = (1, ("row", ("lend", 1, SET), ("both", SET, ("row", SET, SET), SET), ("wait", 1), SET))
    SOME = [(0, 0), (1, 0), (1, 1, 0), (1, 1, 1), (1, 2), (3,)]

    def judged(self, side, some=None):
        some = self.SOME if some is None else some
        told = is_side(self.BOOK, some, side)
        self.assertIsInstance(told, bool)
        self.assertEqual(told, is_side_by_hand(before_by_hand(self.BOOK), some, side))
        return told

    def test_none(self):
        self.assertTrue(self.judged([]))
        self.assertTrue(self.judged([], []))

    def test_all_lists_of_some(self):
        told = {True: 0, False: 0}
        for many in range(len(self.SOME) + 1):
            for side in itertools.combinations(self.SOME, many):
                told[self.judged(list(side))] += 1
        self.assertTrue(told[True] > 15 and told[False] > 15)
        self.assertTrue(self.judged([(0, 0), (1, 0), (1, 1, 0), (1, 2)]))
        self.assertFalse(self.judged([(0, 0), (3,)]))
        self.assertFalse(self.judged([(1, 1, 0), (1, 1, 1)]))

    def test_places_left_out_of_a_side(self):
        side = [(0, 0), (1, 0), (1, 1, 1), (1, 2)]
        for place in side:
            self.assertTrue(self.judged([one for one in side if one != place]))

    def test_told_twice(self):
        for place in self.SOME:
            self.assertTrue(self.judged([place]))
            self.assertFalse(self.judged([place, place]))
        self.assertFalse(self.judged([(0, 0), (1, 0), (1, 0), (1, 2)]))

    def test_not_of_some(self):
        for place in ((), (0,), (1,), (1, 1), (2,), *STRANGE):
            self.assertFalse(self.judged([place]))
            self.assertFalse(self.judged(sorted([(0, 0), (1, 0), place])))
        self.assertFalse(self.judged([(0, 0), (1, 0)], [(0, 0)]))
        self.assertFalse(self.judged([(0, 0)], []))

    def test_in_another_order(self):
        side = [(0, 0), (1, 0), (1, 1, 1), (1, 2)]
        for order in itertools.permutations(side):
            self.assertEqual(self.judged(list(order)), list(order) == side)

    def test_by_chance(self):
        chance = Chance(46)
        told = {True: 0, False: 0}
        for book, some in somes_by_chance(47, 300, 14):
            side = [place for place in some if chance.dice.random() < 0.4]
            right = is_side_by_hand(before_by_hand(book), some, side)
            told[right] += 1
            self.assertIs(is_side(book, some, side), right)
        self.assertTrue(told[True] > 30 and told[False] > 30)


class TestStamps(BreadthCase):
    BOOK, SOME, RIGHT = TestAreRows.BOOK, TestAreRows.SOME, TestAreRows.RIGHT

    def check_stamps(self, book, some, rows):
        told = stamps(book, some, rows)
        before = before_by_hand(book)
        self.assertIsInstance(told, dict)
        self.assertEqual(told, {
            place: tuple(sum(one == place or (one, place) in before for one in row) for row in rows)
            for place in some})
        for number, row in enumerate(rows):
            for p in row:
                for q in some:
                    self.assertEqual(told[q][number] >= told[p][number], p == q or (p, q) in before)

    def refused(self, book, some, rows):
        kept = copy.deepcopy((some, rows))
        with self.assertRaises(NoRows) as caught:
            stamps(book, some, rows)
        self.assertIsInstance(caught.exception, WorkError)
        self.assertEqual((some, rows), kept)

    def test_stamps_told(self):
        self.assertEqual(stamps(self.BOOK, self.SOME, self.RIGHT), {
            (0,): (1, 0), (1, 0): (2, 0), (1, 1, 0): (1, 1), (1, 1, 1): (1, 2), (2,): (2, 3)})
        self.assertEqual(stamps(self.BOOK, self.SOME, self.RIGHT[::-1])[(1, 1, 1)], (2, 1))
        self.assertEqual(stamps((1, SET), [()], [[()]]), {(): (1,)})

    def test_no_deeds(self):
        self.assertEqual(stamps(self.BOOK, [], []), {})
        self.assertEqual(stamps((1, ROW), [], []), {})

    def test_of_told_rows(self):
        for book, some in somes_by_chance(48, 80, 30):
            self.check_stamps(book, some, rows_and_side(book, some)[0])

    def test_of_rows_of_one_each(self):
        for book, some in somes_by_chance(49, 80, 20):
            self.check_stamps(book, some, [[place] for place in some])
            self.check_stamps(book, some, [[place] for place in reversed(some)])

    def test_beside_is_before(self):
        for book, some in somes_by_chance(50, 60, 14):
            rows = rows_and_side(book, some)[0]
            told = stamps(book, some, rows)
            for number, row in enumerate(rows):
                for p in row:
                    for q in some:
                        self.assertEqual(told[q][number] >= told[p][number], p == q or is_before(book, p, q))

    def test_no_rows(self):
        right = self.RIGHT
        for rows in ([], [[]], [*right, []], right[:1], right[1:], [*right, [(2,)]], [self.SOME],
                     [right[0][::-1], right[1]], [*right, [(9,)]], [*right, [()]],
                     [[(1, 0), (1, 1, 0)], [(0,), (1, 1, 1), (2,)]]):
            self.refused(self.BOOK, self.SOME, rows)
        self.refused(self.BOOK, [], [[]])
        self.refused(self.BOOK, [], [[(0,)]])
        self.refused(self.BOOK, self.SOME[1:], right)

    def test_refused_where_are_rows_says_no(self):
        chance = Chance(51)
        told = {True: 0, False: 0}
        for book, some in somes_by_chance(52, 200, 12):
            rows = [[] for _ in range(chance.dice.randint(1, 4))]
            for place in some:
                chance.dice.choice(rows).append(place)
            rows = [row for row in rows if row]
            right = are_rows(book, some, rows)
            told[right] += 1
            if right:
                self.check_stamps(book, some, rows)
            else:
                self.refused(book, some, rows)
        self.assertTrue(told[True] > 20 and told[False] > 20)


class TestSomes(unittest.TestCase):
    def test_no_two_of_the_somes_tried_are_apart(self):
        chance = Chance(53)
        for book, cells in books_by_chance(54, 50, 30):
            need_book(book)
            for p, q in itertools.combinations(some_by_chance(chance, book), 2):
                self.assertFalse(are_apart_by_hand(book, p, q))


class TestNothingIsChanged(unittest.TestCase):
    BOOK, SOME, RIGHT = TestAreRows.BOOK, TestAreRows.SOME, TestAreRows.RIGHT

    def test_what_is_handed_in(self):
        for rows in (self.RIGHT, self.RIGHT[::-1], [], [[]], [self.SOME], [self.SOME[::-1]]):
            some, handed = list(self.SOME), copy.deepcopy(rows)
            are_rows(self.BOOK, some, handed)
            is_side(self.BOOK, some, some)
            try:
                stamps(self.BOOK, some, handed)
            except NoRows:
                pass
            rows_and_side(self.BOOK, some)
            self.assertEqual((some, handed), (self.SOME, rows))
        for side in ([(2,), (0,)], [(0,), (0,)], [(9,)], [(1, 0), (1, 1, 0)]):
            handed = list(side)
            is_side(self.BOOK, self.SOME, handed)
            self.assertEqual(handed, side)

    def test_what_is_told_is_the_askers_own(self):
        first = rows_and_side(self.BOOK, self.SOME)
        kept = copy.deepcopy(first)
        for row in first[0]:
            row.clear()
        first[0].append(None)
        first[1].reverse()
        first[1].append(None)
        self.assertEqual(rows_and_side(self.BOOK, self.SOME), kept)
        told = stamps(self.BOOK, self.SOME, self.RIGHT)
        again = copy.deepcopy(told)
        told.clear()
        self.assertEqual(stamps(self.BOOK, self.SOME, self.RIGHT), again)

    def test_the_told_lists_are_not_those_handed_in(self):
        for some in ([], [(0,)], [(1, 0), (1, 1, 0)], list(self.SOME)):
            kept = list(some)
            rows, side = rows_and_side(self.BOOK, some)
            told = copy.deepcopy((rows, side))
            for part in (*rows, rows, side):
                part.append(None)
            self.assertEqual(some, kept)
            some.clear()
            self.assertEqual(rows_and_side(self.BOOK, kept), told)


if __name__ == "__main__":
    unittest.main()
