"""Point 23: all clashes of a body, and books mended so that none is left."""

import copy
import itertools
import time
import unittest

from helping import (
    Chance, Slow, all_weaves, are_apart_by_hand, books_by_chance, clashes_by_hand, deeds_by_hand,
    many_roads, mended_like, parts_by_hand, places_done, side_by_side, terms_by_hand)
from sidework.books import need_book, why_no_book
from sidework.breadth import rows_and_side
from sidework.hands import eager, is_plan, longest
from sidework.mended import all_clashes, mended
from sidework.pairs import two_hands
from sidework.runs import after, run, weave
from sidework.sure import sure

ROW = ("row",)
A, B, C = ("set", 0, 1), ("set", 0, 2), ("set", 0, 3)
FAR = ("set", 1, 9)


def head(term):
    """A term but for its parts."""
    count = len(parts_by_hand(term))
    return term[:len(term) - count]


def mended_by_hand(book):
    """Point 23 word by word, as a second way: each term that changes, found by itself."""
    count = book[0]
    terms = terms_by_hand(book)
    pairs = clashes_by_hand(book, deeds_by_hand(book))

    def waits(place):
        inside = [p for p in terms if p[:len(place) + 1] == (*place, 0)]
        return any((p in inside) + (q in inside) == 1 for p, q in pairs)

    def first(place):
        term = terms[place]
        made = [*head(term)]
        for at, part in enumerate(parts_by_hand(term)):
            inner = first((*place, at))
            if part[0] == "lend" and waits((*place, at)):
                wait = ("wait", part[1])
                made += [inner, wait] if term[0] == "row" else [("row", inner, wait)]
            else:
                made.append(inner)
        return tuple(made)

    body = first(())
    if terms[()][0] == "lend" and waits(()):
        body = ("row", body, ("wait", body[1]))
    half = (count, body)
    again = clashes_by_hand(half, deeds_by_hand(half))

    def second(place, term):
        parts = [second((*place, at), part) for at, part in enumerate(parts_by_hand(term))]
        if term[0] == "both":
            for i, j in itertools.combinations(range(len(parts)), 2):
                one, other = (*place, i), (*place, j)
                if any(p[:len(one)] == one and q[:len(one)] == other for p, q in again):
                    return ("row", *parts)
        return (*head(term), *parts)

    return (count, second((), body))


def told_alike(book, done):
    """What was done, the places exchanged for the numbers of the deeds in the body and what these are but for parts."""
    numbers = {place: number for number, place in enumerate(deeds_by_hand(book))}
    terms = terms_by_hand(book)
    return [(numbers[place], head(terms[place]), reads, wrote) for place, reads, wrote in done]


class TestAllClashes(unittest.TestCase):
    def test_none(self):
        for body in (ROW, A, ("row", A, B), ("both", A, FAR), ("look", 0, A, B)):
            self.assertEqual(all_clashes((2, body)), [])

    def test_done_or_not(self):
        book = (2, ("both", A, ("look", 1, B, C)))
        self.assertEqual(all_clashes(book), [((0,), (1, 0)), ((0,), (1, 1))])
        book = (2, ("look", 1, ("both", A, B), ("both", B, C)))
        self.assertEqual(all_clashes(book), [((0, 0), (0, 1)), ((1, 0), (1, 1))])

    def test_what_is_apart_does_not_clash(self):
        self.assertEqual(all_clashes((2, ("look", 1, ("row", ("lend", 1, A)), ("lend", 2, B)))), [])

    def test_kinds_of_values(self):
        told = all_clashes((1, ("both", A, B, C)))
        self.assertIsInstance(told, list)
        self.assertEqual(told, [((0,), (1,)), ((0,), (2,)), ((1,), (2,))])

    def test_by_chance_beside_all_pairs(self):
        many, parted = 0, 0
        for seed, count, size in ((111, 200, 16), (112, 12, 60)):
            for book, cells in books_by_chance(seed, count, size):
                deeds = deeds_by_hand(book)
                told = all_clashes(book)
                self.assertEqual(told, clashes_by_hand(book, deeds))
                self.assertEqual(told, sorted(told))
                many += len(told)
                parted += any(are_apart_by_hand(book, p, q) for p, q in itertools.combinations(deeds, 2))
        self.assertTrue(many > 200 and parted > 30)

    def test_great_books(self):
        for book in (many_roads(), (1, side_by_side([A] * 45)), mended_like()):
            self.assertEqual(all_clashes(book), clashes_by_hand(book, deeds_by_hand(book)))


class MendedCase(unittest.TestCase):
    def same_work(self, book, new, cells, chance):
        """That the one-hand runs are alike, and so, but for the order, is each weave of the mended book."""
        done, behind = run(book, cells)
        new_done, new_behind = run(new, cells)
        self.assertEqual(told_alike(new, new_done), told_alike(book, done))
        self.assertEqual(new_behind, behind)
        self.assertEqual(sure(new, cells), ("sure", new_done))
        for _ in range(3):
            other, end = weave(new, cells, [chance.dice.randrange(1000) for _ in range(len(done))])
            self.assertEqual(sorted(told_alike(new, other)), sorted(told_alike(book, done)))
            self.assertEqual(end, behind)

    def check(self, book, chance=None):
        chance = chance or Chance(1)
        new = mended(book)
        self.assertIsInstance(new, tuple)
        self.assertEqual(new, mended_by_hand(book))
        self.assertEqual(all_clashes(new), [])
        self.assertEqual(mended(new), new)
        if not all_clashes(book):
            self.assertEqual(new, book)
        for _ in range(3):
            self.same_work(book, new, chance.cells(book[0]), chance)
        return new

    def becomes(self, body, new):
        book = (3, body)
        need_book(book)
        self.assertEqual(self.check(book), (3, new))


class TestLends(MendedCase):
    def test_a_part_of_a_row(self):
        self.becomes(("row", ("lend", 1, A), B), ("row", ("lend", 1, A), ("wait", 1), B))
        self.becomes(("row", FAR, ("lend", 1, A), FAR, B), ("row", FAR, ("lend", 1, A), ("wait", 1), FAR, B))
        self.becomes(("row", ("row", ("lend", 4, A)), B), ("row", ("row", ("lend", 4, A), ("wait", 4)), B))

    def test_the_body_does_not_clash_with_what_is_outside(self):
        self.becomes(("lend", 1, A), ("lend", 1, A))
        self.becomes(("lend", 1, ("both", A, B)), ("lend", 1, ("row", A, B)))
        self.becomes(("lend", 1, ("row", ("lend", 2, A), B)), ("lend", 1, ("row", ("lend", 2, A), ("wait", 2), B)))

    def test_a_part_of_a_both(self):
        self.becomes(("both", ("lend", 1, A), B), ("row", ("row", ("lend", 1, A), ("wait", 1)), B))
        self.becomes(("row", ("both", ("lend", 1, A), FAR), B),
                     ("row", ("both", ("row", ("lend", 1, A), ("wait", 1)), FAR), B))

    def test_a_part_of_a_look(self):
        self.becomes(("row", ("look", 1, ("lend", 1, A), ROW), B),
                     ("row", ("look", 1, ("row", ("lend", 1, A), ("wait", 1)), ROW), B))
        self.becomes(("row", ("look", 1, ROW, ("lend", 1, A)), B),
                     ("row", ("look", 1, ROW, ("row", ("lend", 1, A), ("wait", 1))), B))

    def test_a_part_of_a_lend(self):
        self.becomes(("row", ("lend", 1, ("lend", 2, A)), B),
                     ("row", ("lend", 1, ("row", ("lend", 2, A), ("wait", 2))), ("wait", 1), B))

    def test_several_at_once(self):
        self.becomes(("row", ("lend", 1, A), ("lend", 2, B), ("lend", 3, FAR)),
                     ("row", ("lend", 1, A), ("wait", 1), ("lend", 2, B), ("wait", 2), ("lend", 3, FAR)))
        # The second one gets a wait though the one behind the first would do.
        self.becomes(("row", ("lend", 1, A), ("lend", 2, B), ("lend", 3, C)),
                     ("row", ("lend", 1, A), ("wait", 1), ("lend", 2, B), ("wait", 2), ("lend", 3, C), ("wait", 3)))

    def test_one_within_another_one(self):
        self.becomes(("row", ("lend", 1, ("row", ("lend", 2, FAR), A)), B),
                     ("row", ("lend", 1, ("row", ("lend", 2, FAR), A)), ("wait", 1), B))
        self.becomes(("row", ("lend", 1, ("row", ("lend", 2, A), FAR)), B),
                     ("row", ("lend", 1, ("row", ("lend", 2, A), ("wait", 2), FAR)), ("wait", 1), B))
        self.becomes(("row", ("lend", 1, ("row", ("lend", 2, A), B)), FAR),
                     ("row", ("lend", 1, ("row", ("lend", 2, A), ("wait", 2), B)), FAR))

    def test_a_wait_stands_right_behind_it_already(self):
        self.becomes(("row", ("lend", 1, A), ("wait", 1), B), ("row", ("lend", 1, A), ("wait", 1), B))
        self.becomes(("both", ("row", ("lend", 1, A), ("wait", 1)), B),
                     ("row", ("row", ("lend", 1, A), ("wait", 1), ("wait", 1)), B))

    def test_a_later_wait_is_too_late_for_some(self):
        self.becomes(("row", ("lend", 1, A), B, ("wait", 1), C),
                     ("row", ("lend", 1, A), ("wait", 1), B, ("wait", 1), C))

    def test_a_lend_that_does_not_clash_stays(self):
        self.becomes(("row", ("lend", 1, FAR), A, ("lend", 2, B), ("wait", 2), C),
                     ("row", ("lend", 1, FAR), A, ("lend", 2, B), ("wait", 2), C))

    def test_a_clash_with_what_is_apart_from_some_of_it(self):
        look = ("look", 1, A, FAR)
        self.becomes(("row", ("lend", 1, look), ("copy", 2, 0)),
                     ("row", ("lend", 1, look), ("wait", 1), ("copy", 2, 0)))

    def test_more_parts_than_six(self):
        lends = [("lend", k, A) for k in range(6)]
        new = mended((1, ("row", *lends)))
        self.assertEqual(new, (1, ("row", *[part for k in range(6) for part in (lends[k], ("wait", k))])))
        self.assertEqual(why_no_book(new), "shape")
        self.check((1, ("row", *lends)))


class TestBoths(MendedCase):
    def test_parts_that_clash(self):
        self.becomes(("both", A, B), ("row", A, B))
        self.becomes(("both", A, B, FAR), ("row", A, B, FAR))
        self.becomes(("row", ("both", A, ("look", 0, ROW, ROW)), ("both", A, FAR)),
                     ("row", ("row", A, ("look", 0, ROW, ROW)), ("both", A, FAR)))

    def test_only_parts_far_from_each_other_clash(self):
        two = ("set", 2, 1)
        self.becomes(("both", A, FAR, two, B), ("row", A, FAR, two, B))
        self.becomes(("both", ("row", ROW, A), FAR, ("both", two, B)), ("row", ("row", ROW, A), FAR, ("both", two, B)))

    def test_boths_within_boths(self):
        self.becomes(("both", ("both", A, B), FAR), ("both", ("row", A, B), FAR))
        self.becomes(("both", ("both", A, FAR), B), ("row", ("both", A, FAR), B))
        self.becomes(("both", ("both", A, B), C), ("row", ("row", A, B), C))

    def test_within_looks_and_lends(self):
        self.becomes(("look", 0, ("both", A, B), ("both", A, FAR)), ("look", 0, ("row", A, B), ("both", A, FAR)))
        self.becomes(("row", ("lend", 1, ("both", A, B)), FAR), ("row", ("lend", 1, ("row", A, B)), FAR))

    def test_deeds_that_are_never_done_count(self):
        look = ("look", 1, A, ROW)
        self.becomes(("both", look, B), ("row", look, B))

    def test_a_wait_in_one_part_for_what_was_lent_ahead(self):
        both = ("both", ("row", ("wait", 1), A), FAR)
        self.becomes(("row", ("lend", 1, B), both), ("row", ("lend", 1, B), both))
        both = ("both", ("row", ("wait", 1), B), ("set", 2, 0))
        self.becomes(("row", ("lend", 1, A), both), ("row", ("lend", 1, A), both))
        both = ("both", ("row", ("wait", 1), B), ("add", 2, 0))
        self.becomes(("row", ("lend", 1, A), both),
                     ("row", ("lend", 1, A), ("wait", 1), ("row", ("row", ("wait", 1), B), ("add", 2, 0))))


class TestMended(MendedCase):
    def test_nothing_clashes(self):
        for body in (ROW, A, ("row", A, B), ("both", A, FAR), ("look", 0, A, B), ("lend", 1, ROW),
                     ("row", ("lend", 1, A), ("wait", 1), B)):
            self.becomes(body, body)

    def test_by_chance_beside_the_slow_way(self):
        chance = Chance(113)
        changed, lends = 0, 0
        for seed, count, size in ((114, 250, 14), (115, 40, 30), (116, 8, 55)):
            for book, cells in books_by_chance(seed, count, size):
                new = self.check(book, chance)
                changed += new != book
                lends += len(terms_by_hand(new)) > len(terms_by_hand(book))
        self.assertTrue(changed > 80 and lends > 25, (changed, lends))

    def test_all_weaves_of_small_mended_books(self):
        many = 0
        for book, cells in books_by_chance(118, 250, 8):
            new = mended(book)
            done, behind = run(book, cells)
            if new != book and len(done) <= 5:
                for told, now in all_weaves(after, new, cells):
                    many += 1
                    self.assertEqual(sorted(told_alike(new, told)), sorted(told_alike(book, done)))
                    self.assertEqual(now, behind)
        self.assertGreater(many, 50)

    def test_great_books_in_seconds(self):
        begun = time.monotonic()
        adds = side_by_side([("add", k % 6, (k + 1) % 6) for k in range(44)])
        for book in (many_roads(), (6, adds), (6, side_by_side([("look", 5, ROW, A)] * 14))):
            need_book(book)
            self.check(book)
        self.assertLess(time.monotonic() - begun, 20)

    def test_more_parts_than_a_book_may_have(self):
        self.check(mended_like())

    def test_what_is_told_may_be_handed_in(self):
        chance = Chance(119)
        greater = 0
        for book, cells in [*books_by_chance(120, 25, 40), ((1, ("row", *[("lend", k, A) for k in range(6)])), (0,))]:
            new = mended(book)
            greater += why_no_book(new) == "shape"
            done, behind = run(new, cells)
            self.assertEqual((done, behind), Slow(new, cells).weave([]))
            picks = [chance.dice.randrange(100) for _ in done]
            self.assertEqual(weave(new, cells, picks), Slow(new, cells).weave(picks))
            some = places_done(done)[:50]
            self.assertEqual(after(new, cells, places_done(done)), (done, behind, []))
            self.assertEqual(sure(new, cells), ("sure", done))
            rows, side = rows_and_side(new, some)
            self.assertEqual(len(rows), len(side))
            for h in range(1, 7):
                self.assertTrue(is_plan(new, some, h, eager(new, some, h)))
            plan, blocks = two_hands(new, some)
            self.assertTrue(is_plan(new, some, 2, plan))
            self.assertLessEqual(len(longest(new, some)), len(plan))
        self.assertGreater(greater, 0)


class TestNothingIsChanged(unittest.TestCase):
    BOOK = (2, ("row", ("lend", 1, A), ("both", B, C), ("look", 1, ("both", A, B), ROW)))

    def test_the_book_stays(self):
        book = copy.deepcopy(self.BOOK)
        first = mended(book)
        all_clashes(book)
        self.assertEqual(book, self.BOOK)
        self.assertEqual(mended(book), first)

    def test_a_told_list_is_the_askers_own(self):
        first = all_clashes(self.BOOK)
        kept = list(first)
        self.assertTrue(kept)
        first.clear()
        self.assertEqual(all_clashes(self.BOOK), kept)
        self.assertEqual(all_clashes(mended(self.BOOK)), [])


if __name__ == "__main__":
    unittest.main()
