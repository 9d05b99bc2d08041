"""Points 1, 2, 3 and 13 over the whole program: the parts of it beside one another, and what is handed in and told."""

import copy
import importlib
import inspect
import itertools
import time
import unittest

from helping import (
    Chance, before_by_hand, books_by_chance, deeds_by_hand, many_roads, parts_by_hand, places_done, side_by_side)
from sidework.books import all_places, deed_places, need_book, parts_of, term_at, why_no_book
from sidework.breadth import are_rows, is_side, rows_and_side, stamps
from sidework.clashes import clashes
from sidework.desk import Desk
from sidework.errors import WorkError
from sidework.hands import eager, is_plan, longest
from sidework.keeper import Keeper
from sidework.labels import are_labels, labels
from sidework.mended import all_clashes, mended
from sidework.pairs import are_blocks, two_hands
from sidework.roads import are_apart, are_aside, is_before, is_road, road, ties
from sidework.runs import after, run, weave
from sidework.sure import sure
from sidework.texts import read_book, show_book, show_place

# The interface of the document: what each file holds, and how many things are handed in.
INTERFACE = {
    "books": {"why_no_book": 1, "need_book": 1, "parts_of": 1, "all_places": 1, "deed_places": 1, "term_at": 2},
    "runs": {"run": 2, "weave": 3, "after": 3},
    "roads": {"ties": 2, "road": 3, "is_road": 2, "is_before": 3, "are_apart": 3, "are_aside": 3},
    "labels": {"labels": 2, "are_labels": 3},
    "breadth": {"rows_and_side": 2, "are_rows": 3, "is_side": 3, "stamps": 3},
    "clashes": {"clashes": 2},
    "sure": {"sure": 2},
    "keeper": {},
    "hands": {"eager": 3, "longest": 2, "is_plan": 4},
    "pairs": {"two_hands": 2, "are_blocks": 3},
    "mended": {"all_clashes": 1, "mended": 1},
    "texts": {"show_book": 1, "show_place": 1, "read_book": 1},
    "desk": {},
}
METHODS = {
    Keeper: {"__init__": 2, "step": 0, "done": 0, "cells": 0, "before": 2},
    Desk: {"__init__": 0, "say": 1},
}


def gentle(term, dice):
    """The term with most of its writing deeds exchanged for looks, so that less of it clashes."""
    parts = parts_by_hand(term)
    if term[0] in ("set", "add", "copy") and dice.random() < 0.7:
        return ("look", term[1], ("row",), ("row",))
    return (*term[:len(term) - len(parts)], *[gentle(part, dice) for part in parts])


def sure_books(seed, count, size):
    """Books that are sure from their cells, mended or not, with these cells and the places that the run does."""
    dice = Chance(seed).dice
    found = []
    for book, cells in books_by_chance(seed, count, size):
        book = (book[0], gentle(book[1], dice))
        for calm in (book, mended(book)):
            if sure(calm, cells)[0] == "sure":
                found.append((calm, cells, places_done(run(calm, cells)[0])[:50]))
    return found


class TestInterface(unittest.TestCase):
    def test_functions(self):
        for name, functions in INTERFACE.items():
            module = importlib.import_module(f"sidework.{name}")
            for function, count in functions.items():
                found = getattr(module, function)
                self.assertEqual(len(inspect.signature(found).parameters), count, function)

    def test_methods_stand_in_their_own_class(self):
        for kind, methods in METHODS.items():
            for method, count in methods.items():
                self.assertIn(method, vars(kind))
                self.assertEqual(len(inspect.signature(vars(kind)[method]).parameters), count + 1)


class TestPartsBesideOneAnother(unittest.TestCase):
    def test_plans_are_weaves_where_it_is_sure(self):
        chance = Chance(141)
        unlike = 0
        for book, cells, some in sure_books(142, 250, 18):
            done, behind = run(book, cells)
            for plan in (*[eager(book, some, h) for h in range(1, 7)], two_hands(book, some)[0]):
                for _ in range(2):
                    order = [place for tick in plan for place in chance.dice.sample(tick, len(tick))]
                    told, now, ready = after(book, cells, order)
                    self.assertEqual(sorted(told, key=lambda deed: deed[0]), done)
                    self.assertEqual((now, ready), (behind, []))
                    unlike += order != some
        self.assertGreater(unlike, 300)

    def test_a_side_is_open_at_once_when_all_before_it_is_done(self):
        broad = 0
        for book, cells, some in sure_books(143, 250, 18):
            side = rows_and_side(book, some)[1]
            ahead = [p for p in some if any(is_before(book, p, q) for q in side)]
            ready = after(book, cells, ahead)[2]
            self.assertLessEqual(set(side), set(ready))
            broad += len(side) > 1
        self.assertGreater(broad, 60)

    def test_the_keepers_first_clash_is_that_of_sure(self):
        words = set()
        for book, cells in books_by_chance(144, 200, 20):
            keeper = Keeper(book, cells)
            told = []
            while (step := keeper.step()) is not None:
                told += [(step[1], step[0])] if step[1] is not None else []
            expected = sure(book, cells)
            words.add(expected[0])
            self.assertEqual(told[:1], [expected[1:3]] if expected[0] == "clash" else [])
            self.assertEqual((keeper.done(), keeper.cells()), run(book, cells))
        self.assertEqual(words, {"sure", "clash"})

    def test_mended_what_came_before_what_still_does(self):
        for book, cells in books_by_chance(145, 80, 20):
            new = mended(book)
            moved = dict(zip(deed_places(book), deed_places(new), strict=True))
            for p, q in before_by_hand(book):
                self.assertTrue(is_before(new, moved[p], moved[q]))

    def test_mended_each_weave_is_that_of_the_run_whatever_the_cells_hold(self):
        chance = Chance(146)
        for book, cells in books_by_chance(147, 80, 20):
            new = mended(book)
            moved = dict(zip(deed_places(book), deed_places(new), strict=True))
            for held in (cells, (0,) * book[0], chance.cells(book[0])):
                done, behind = run(book, held)
                done = [(moved[place], reads, wrote) for place, reads, wrote in done]
                self.assertEqual(run(new, held), (done, behind))
                told, now = weave(new, held, [chance.dice.randrange(99) for _ in done])
                self.assertEqual(sorted(told, key=lambda deed: deed[0]), done)
                self.assertEqual(now, behind)

    def test_roads_labels_stamps_and_the_keeper_tell_the_same(self):
        for book, cells in books_by_chance(148, 80, 14):
            done, behind = run(book, cells)
            some = places_done(done)
            rows, side = rows_and_side(book, some)
            told = stamps(book, some, rows)
            keeper = Keeper(book, cells)
            for _ in some:
                keeper.step()
            lends = any(term_at(book, place)[0] == "lend" for place in all_places(book))
            tags = None if lends else labels(book, some)
            of_row = {place: number for number, row in enumerate(rows) for place in row}
            for p, q in itertools.permutations(some, 2):
                before = is_before(book, p, q)
                self.assertEqual(road(book, p, q) is not None, before)
                self.assertEqual(told[q][of_row[p]] >= told[p][of_row[p]], before)
                self.assertEqual(keeper.before(p, q), before)
                self.assertEqual(are_aside(book, p, q), not before and not is_before(book, q, p))
                self.assertFalse(are_apart(book, p, q))
                if tags is not None:
                    self.assertEqual(tags[p][0] < tags[q][0] and tags[p][1] < tags[q][1], before)

    def test_the_bounds_meet(self):
        for book, cells in books_by_chance(149, 80, 30):
            some = places_done(run(book, cells)[0])
            rows, side = rows_and_side(book, some)
            chain, plan = longest(book, some), two_hands(book, some)[0]
            self.assertGreaterEqual(len(chain) * len(rows), len(some))
            self.assertTrue(max(len(chain), len(some) / 2) <= len(plan) <= len(eager(book, some, 2)))
            self.assertEqual(len(eager(book, some, 1)), len(some))

    def test_clashes_of_the_run_are_of_all_clashes(self):
        for book, cells in books_by_chance(150, 100, 20):
            some = places_done(run(book, cells)[0])
            self.assertEqual(clashes(book, some), [pair for pair in all_clashes(book) if set(pair) <= set(some)])


class TestSeconds(unittest.TestCase):
    def test_all_of_fifty_deeds(self):
        sets = side_by_side([("set", k % 6, 1) for k in range(44)])
        strands = side_by_side([("row", *[("add", k % 6, j) for j in range(4)]) for k in range(10)])
        for book in (many_roads(), (6, sets), (6, strands)):
            need_book(book)
            cells = (1,) * book[0]
            some = deeds_by_hand(book)[:50]
            begun = time.monotonic()
            rows, side = rows_and_side(book, some)
            stamps(book, some, rows)
            are_labels(book, some, labels(book, some))
            self.assertTrue(is_side(book, some, side) and are_rows(book, some, rows))
            plan, blocks = two_hands(book, some)
            self.assertTrue(is_plan(book, some, 2, plan) and are_blocks(book, some, blocks))
            sure(book, cells)
            mended(book)
            self.assertTrue(is_road(book, road(book, longest(book, some)[0], longest(book, some)[-1])))
            self.assertLess(time.monotonic() - begun, 10)


class TestNothingIsChangedOrKept(unittest.TestCase):
    BOOK = (3, ("row", ("set", 0, 1), ("both", ("add", 1, 0), ("row", ("copy", 1, 2), ("set", 2, 7))),
                ("look", 2, ("set", 0, 5), ("row",))))
    LENDS = (2, ("row", ("lend", 1, ("set", 0, 7)), ("add", 1, 0), ("wait", 1), ("copy", 0, 1)))
    SOME = [(0,), (1, 0), (1, 1, 0), (1, 1, 1), (2,), (2, 0)]

    def questions(self):
        """Functions, each with what is handed in, some of which are refused."""
        book, some = self.BOOK, self.SOME
        rows, side = rows_and_side(book, some)
        plan, blocks = two_hands(book, some)
        right = labels(book, some)
        points = road(book, (0,), (2,))
        found = [(call, [book]) for call in (why_no_book, need_book, all_places, deed_places)]
        found += [(call, [book]) for call in (all_clashes, mended, show_book)]
        found += [(call, [[1, [2], {"a": [3]}]]) for call in (why_no_book, need_book)]
        found += [(parts_of, [book[1]]), (term_at, [book, (1, 1)]), (show_place, [(1, 2)])]
        found += [(read_book, [text]) for text in (show_book(book), "", "1 (wait 0)")]
        found += [(run, [book, (1, 2, 3)]), (sure, [book, (1, 2, 3)]), (sure, [self.LENDS, (0, 0)])]
        found += [(weave, [book, (1, 2, 3), picks]) for picks in ([], [1, 2], [10 ** 60] * 20)]
        found += [(after, [book, (1, 2, 3), places]) for places in ([], [(0,), (1, 0)], [(0,), (9,)], [(5,)])]
        found += [(ties, [book, ("in", (1,))]), (road, [book, (0,), (2,)]), (is_road, [book, points]),
                  (is_road, [book, points[::-1]]), (labels, [book, some]), (labels, [self.LENDS, [(0, 0)]]),
                  (are_labels, [book, some, right]), (are_labels, [book, some, {}])]
        found += [(call, [book, (0,), (2,)]) for call in (is_before, are_apart, are_aside)]
        found += [(call, [book, some]) for call in (rows_and_side, clashes, longest, two_hands)]
        found += [(call, [book, some, lists]) for call in (are_rows, stamps, are_blocks)
                  for lists in (rows, rows[::-1], [], [[]], [some], blocks)]
        found += [(is_side, [book, some, places]) for places in (side, side[::-1], [], some)]
        found += [(eager, [book, some, h]) for h in range(1, 7)]
        found += [(is_plan, [book, some, 2, lists]) for lists in (plan, plan[::-1], [], [[]], [some])]
        return [(call, copy.deepcopy(handed)) for call, handed in found]

    def asked(self, call, handed):
        """What is told, or the error that refuses it."""
        try:
            return call(*handed)
        except WorkError as caught:
            return (caught.__class__.__name__, vars(caught))

    def spoil(self, thing):
        """Changes each list and dict in what was told."""
        if isinstance(thing, (tuple, list)):
            for inner in thing:
                self.spoil(inner)
        if isinstance(thing, list):
            thing.append("spoilt")
            thing.reverse()
        if isinstance(thing, dict):
            thing.clear()

    def test_what_is_handed_in_is_the_same_behind_each_call(self):
        for call, handed in self.questions():
            kept = copy.deepcopy(handed)
            self.asked(call, handed)
            self.assertEqual(handed, kept, call.__name__)

    def ask_spoil_and_ask_again(self, spoils_told):
        """Spoils what was told, or what was handed in: the other one and the next answer stay as they were."""
        for call, handed in self.questions():
            kept = copy.deepcopy(handed)
            told = self.asked(call, handed)
            again = copy.deepcopy(told)
            if spoils_told:
                self.spoil(told)
                self.assertEqual(handed, kept, call.__name__)
            else:
                self.spoil(handed)
                self.assertEqual(told, again, call.__name__)
            self.assertEqual(self.asked(call, kept), again, call.__name__)

    def test_what_is_told_is_the_askers_own(self):
        self.ask_spoil_and_ask_again(spoils_told=True)

    def test_what_is_handed_in_is_not_kept(self):
        self.ask_spoil_and_ask_again(spoils_told=False)

    def test_each_function_is_asked(self):
        asked = {call.__name__ for call, handed in self.questions()}
        self.assertEqual(asked, {name for functions in INTERFACE.values() for name in functions})


if __name__ == "__main__":
    unittest.main()
