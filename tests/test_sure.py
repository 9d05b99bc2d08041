"""Points 18 and 19: whether each weave comes to the same, with two weaves that part where one may not."""

import copy
import time
import unittest

from helping import (
    Chance, Slow, all_weaves, before_by_hand, books_by_chance, clashes_by_hand, many_roads, mended_like, places_done,
    share_by_hand, side_by_side, terms_by_hand)
from sidework.books import need_book
from sidework.runs import after, run, weave
from sidework.sure import sure

ROW = ("row",)


def sure_by_hand(book, cells):
    """Point 18 word by word, as a second way."""
    done, behind = Slow(book, cells).weave([])
    places = sorted(places_done(done))
    pairs = clashes_by_hand(book, places)
    if not pairs:
        return ("sure", done)
    least = [q for q in places if any(pair[1] == q for pair in pairs)][0]
    lesser = [p for p in places if (p, least) in pairs][0]
    before = before_by_hand(book)
    ahead = [place for place in places if {(place, lesser), (place, least)} & before]
    return ("clash", lesser, least, [*ahead, lesser, least], [*ahead, least, lesser])


class SureCase(unittest.TestCase):
    def check_clash(self, book, cells, told):
        """That the two weaves can be done, do the same as the run ahead of their last two, and share a cell there."""
        word, p, q, one, other = told
        terms = terms_by_hand(book)
        done = run(book, cells)[0]
        self.assertEqual(word, "clash")
        self.assertLess(p, q)
        self.assertIsInstance(one, list)
        self.assertIsInstance(other, list)
        self.assertEqual((one[-2:], other[-2:], one[:-2]), ([p, q], [q, p], other[:-2]))
        self.assertEqual(one[:-2], sorted(one[:-2]))
        ahead, behind, ready = after(book, cells, one[:-2])
        self.assertLessEqual({p, q}, set(ready))
        self.assertEqual(ahead, [deed for deed in done if deed[0] in one[:-2]])
        for places in (one, other):
            self.assertEqual(places_done(after(book, cells, places)[0]), places)
        self.assertTrue(share_by_hand(terms[p], terms[q]))

    def check(self, book, cells):
        told = sure(book, cells)
        self.assertIsInstance(told, tuple)
        self.assertEqual(told, sure_by_hand(book, cells))
        if told[0] == "clash":
            self.check_clash(book, cells, told)
        else:
            self.assertEqual(told, ("sure", run(book, cells)[0]))
        return told


class TestSure(SureCase):
    def test_books_without_deeds(self):
        for body in (ROW, ("row", ROW, ROW), ("both", ROW, ROW), ("lend", 3, ROW),
                     ("row", ("lend", 3, ROW), ("wait", 3))):
            self.assertEqual(self.check((1, body), (7,)), ("sure", []))

    def test_one_deed(self):
        self.assertEqual(self.check((1, ("set", 0, 4)), (7,)), ("sure", [((), (), 4)]))
        self.assertEqual(self.check((1, ("add", 0, 0)), (7,)), ("sure", [((), (7, 7), 4)]))

    def test_a_row_is_sure(self):
        book = (2, ("row", ("set", 0, 1), ("add", 1, 0), ("copy", 0, 1)))
        self.assertEqual(self.check(book, (5, 6)), ("sure", [((0,), (), 1), ((1,), (6, 1), 7), ((2,), (7,), 7)]))

    def test_side_by_side_on_cells_of_their_own(self):
        book = (3, ("both", ("add", 0, 2), ("copy", 1, 2), ("look", 2, ROW, ROW)))
        self.assertEqual(self.check(book, (1, 2, 3))[0], "sure")

    def test_two_that_clash(self):
        self.assertEqual(self.check((1, ("both", ("set", 0, 1), ("set", 0, 2))), (0,)),
                         ("clash", (0,), (1,), [(0,), (1,)], [(1,), (0,)]))
        # They clash even where each weave comes to the same.
        self.assertEqual(self.check((1, ("both", ("set", 0, 1), ("set", 0, 1))), (0,))[0], "clash")

    def test_what_comes_before_either_is_done_ahead(self):
        first, last = ("row", ("set", 1, 1), ("set", 0, 1)), ("row", ("set", 2, 1), ("set", 0, 2))
        book = (4, ("both", first, ("set", 3, 1), last))
        self.assertEqual(self.check(book, (0, 0, 0, 0)), (
            "clash", (0, 1), (2, 1), [(0, 0), (2, 0), (0, 1), (2, 1)], [(0, 0), (2, 0), (2, 1), (0, 1)]))

    def test_what_lies_between_in_the_run_may_be_left_out(self):
        book = (3, ("both", ("row", ("set", 0, 1), ("set", 1, 1)), ("set", 2, 5), ("add", 2, 0)))
        told = self.check(book, (0, 0, 0))
        self.assertEqual(told, ("clash", (0, 0), (2,), [(0, 0), (2,)], [(2,), (0, 0)]))

    def test_the_least_q_goes_ahead_of_the_least_p(self):
        book = (3, ("both", ("set", 0, 1), ("set", 1, 1), ("set", 1, 2), ("set", 0, 2)))
        self.assertEqual(self.check(book, (0, 0, 0))[1:3], ((1,), (2,)))

    def test_the_least_p_of_several(self):
        book = (3, ("both", ("set", 0, 1), ("set", 1, 1), ("set", 2, 2), ("add", 2, 1)))
        self.assertEqual(self.check(book, (0, 0, 0))[1:3], ((1,), (3,)))
        book = (3, ("both", ("set", 0, 1), ("set", 2, 2), ("add", 2, 0)))
        self.assertEqual(self.check(book, (0, 0, 0))[1:3], ((0,), (2,)))

    def test_a_lend_that_is_not_waited_for(self):
        book = (1, ("row", ("lend", 1, ("set", 0, 1)), ("add", 0, 0)))
        self.assertEqual(self.check(book, (3,)), ("clash", (0, 0), (1,), [(0, 0), (1,)], [(1,), (0, 0)]))
        book = (1, ("row", ("lend", 1, ("set", 0, 1)), ("wait", 1), ("add", 0, 0)))
        self.assertEqual(self.check(book, (3,))[0], "sure")
        book = (2, ("row", ("lend", 1, ("set", 0, 1)), ("set", 1, 1), ("wait", 1), ("add", 0, 0)))
        self.assertEqual(self.check(book, (3, 4))[0], "sure")

    def test_the_cells_decide_which_looks_are_done(self):
        book = (2, ("both", ("set", 1, 3), ("look", 0, ("set", 1, 4), ROW)))
        self.assertEqual(self.check(book, (0, 0)), ("sure", [((0,), (), 3), ((1,), (0,), None)]))
        self.assertEqual(self.check(book, (1, 0)), ("clash", (0,), (1, 0), [(1,), (0,), (1, 0)], [(1,), (1, 0), (0,)]))

    def test_the_look_itself_clashes(self):
        book = (1, ("both", ("set", 0, 3), ("look", 0, ("set", 0, 4), ROW)))
        self.assertEqual(self.check(book, (0,))[1:3], ((0,), (1,)))

    def test_by_chance_beside_the_slow_way(self):
        told = {"sure": 0, "clash": 0}
        for seed, count, size in ((71, 500, 12), (72, 60, 30), (73, 12, 60)):
            for book, cells in books_by_chance(seed, count, size):
                told[self.check(book, cells)[0]] += 1
        self.assertTrue(told["sure"] > 100 and told["clash"] > 100, told)

    def test_one_book_sure_from_some_cells_only(self):
        many = 0
        chance = Chance(74)
        for book, cells in books_by_chance(75, 150, 14):
            words = {self.check(book, chance.cells(book[0]))[0] for _ in range(6)}
            many += len(words) == 2
        self.assertGreater(many, 3)

    def test_great_books_in_seconds(self):
        begun = time.monotonic()
        sets = [("set", k % 6, 1) for k in range(44)]
        for book in (many_roads(), (6, side_by_side(sets)), (6, side_by_side([("look", 5, ROW, ROW)] * 15))):
            need_book(book)
            self.check(book, (0,) * book[0])
        self.assertLess(time.monotonic() - begun, 20)

    def test_more_parts_than_a_book_may_have(self):
        book = mended_like()
        self.assertEqual(self.check(book, (1, 2, 3, 4))[0], "clash")
        wild = (2, ("row", *[("lend", k, ("set", 0, k)) for k in range(10)], *[("wait", k) for k in range(10)]))
        self.assertEqual(self.check(wild, (1, 2))[1:3], ((0, 0), (1, 0)))
        calm = (2, ("row", *[("set", 0, k % 10) for k in range(10)], *[("add", 1, 1)] * 39))
        self.assertEqual(self.check(calm, (1, 2))[0], "sure")


class TestWeavesOfSureBooks(SureCase):
    def same(self, book, cells, done, behind):
        """That what a weave came to is what the run does."""
        run_done, run_behind = run(book, cells)
        self.assertEqual(sorted(done, key=lambda deed: deed[0]), sorted(run_done, key=lambda deed: deed[0]))
        self.assertEqual(behind, run_behind)

    def test_all_weaves_of_small_books(self):
        many = 0
        for book, cells in books_by_chance(76, 700, 9):
            if sure(book, cells)[0] == "sure" and len(run(book, cells)[0]) <= 6:
                weaves = all_weaves(after, book, cells)
                many += len(weaves) > 1
                for done, behind in weaves:
                    self.same(book, cells, done, behind)
        self.assertGreater(many, 20)

    def test_by_picks(self):
        chance = Chance(77)
        many = 0
        for book, cells in books_by_chance(78, 1500, 16):
            if sure(book, cells)[0] == "sure":
                for _ in range(4):
                    picks = [chance.dice.randrange(10 ** chance.dice.randint(1, 9)) for _ in range(40)]
                    done, behind = weave(book, cells, picks)
                    self.same(book, cells, done, behind)
                    many += places_done(done) != places_done(run(book, cells)[0])
        self.assertGreater(many, 100)

    def test_a_great_work_with_many_weaves(self):
        hands = [("row", ("set", 2 * k, k + 3), ("add", 2 * k, 2 * k), ("look", 2 * k, ("copy", 2 * k + 1, 2 * k), ROW),
                  ("add", 2 * k + 1, 2 * k)) for k in range(3)]
        body = ("row", ("lend", 1, hands[0]), ("both", *hands[1:]), ("wait", 1), ("add", 0, 2), ("add", 0, 4))
        book, cells = (6, body), (1, 2, 3, 4, 5, 6)
        need_book(book)
        self.assertEqual(self.check(book, cells)[0], "sure")
        chance = Chance(79)
        for _ in range(200):
            done, behind = weave(book, cells, [chance.dice.randrange(100) for _ in range(20)])
            self.same(book, cells, done, behind)

    def test_a_weave_that_differs_is_of_a_book_that_is_not_sure(self):
        many = 0
        for book, cells in books_by_chance(80, 400, 9):
            done, behind = run(book, cells)
            if len(done) <= 5:
                ends = [(sorted(map(repr, done)), behind) for done, behind in all_weaves(after, book, cells)]
                if any(end != ends[0] for end in ends):
                    many += 1
                    self.assertEqual(sure(book, cells)[0], "clash")
        self.assertGreater(many, 10)


class TestNothingIsChanged(unittest.TestCase):
    def test_told_lists_are_the_askers_own(self):
        calm = (2, ("row", ("set", 0, 1), ("add", 1, 0)))
        wild = (2, ("row", ("set", 0, 1), ("both", ("set", 1, 1), ("set", 1, 2))))
        for book in (calm, wild):
            first = sure(book, (3, 4))
            kept = copy.deepcopy(first)
            for thing in first:
                if isinstance(thing, list):
                    thing.reverse()
                    thing.append(None)
            self.assertEqual(sure(book, (3, 4)), kept)
            self.assertEqual(run(book, (3, 4)), run(copy.deepcopy(book), (3, 4)))

    def test_one_told_list_is_not_the_other_one(self):
        told = sure((1, ("both", ("set", 0, 1), ("set", 0, 2))), (0,))
        told[3].clear()
        self.assertEqual(told[4], [(1,), (0,)])


if __name__ == "__main__":
    unittest.main()
