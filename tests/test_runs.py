"""Points 8 to 10: the one-hand run, weaves by picks, and a work done place by place."""

import copy
import unittest

from helping import Chance, Slow, books_by_chance, chain, terms_by_hand, terms_in_all
from sidework.books import deed_places
from sidework.errors import NoStep, WorkError
from sidework.runs import after, run, weave

ROW = ("row",)


def places(done):
    return [place for place, reads, wrote in done]


class TestRun(unittest.TestCase):
    def check(self, body, cells, done, behind):
        self.assertEqual(run((len(cells), body), cells), (done, behind))

    def test_the_deeds(self):
        self.check(("set", 1, 7), (3, 4), [((), (), 7)], (3, 7))
        self.check(("set", 0, 0), (3,), [((), (), 0)], (0,))
        self.check(("add", 0, 1), (3, 4), [((), (3, 4), 7)], (7, 4))
        self.check(("add", 1, 0), (3, 4), [((), (4, 3), 7)], (3, 7))
        self.check(("add", 0, 0), (4,), [((), (4, 4), 8)], (8,))
        self.check(("copy", 0, 1), (3, 4), [((), (4,), 4)], (4, 4))
        self.check(("copy", 1, 1), (3, 4), [((), (4,), 4)], (3, 4))
        self.check(("look", 1, ROW, ROW), (3, 4), [((), (4,), None)], (3, 4))

    def test_sums_by_their_rest_by_ten(self):
        for x in range(10):
            for y in range(10):
                self.check(("add", 0, 1), (x, y), [((), (x, y), (x + y) - 10 * (x + y > 9))], ((x + y) % 10, y))

    def test_kinds_of_values(self):
        done, cells = run((2, ("both", ("add", 0, 1), ("look", 0, ROW, ROW))), (1, 2))
        self.assertIsInstance(run((1, ROW), (0,)), tuple)
        self.assertIsInstance(done, list)
        self.assertIsInstance(cells, tuple)
        for deed in done:
            self.assertIsInstance(deed, tuple)
            self.assertIsInstance(deed[0], tuple)
            self.assertIsInstance(deed[1], tuple)

    def test_a_row(self):
        self.check(("row", ("set", 0, 8), ("add", 1, 0), ("copy", 0, 1)), (1, 5),
                   [((0,), (), 8), ((1,), (5, 8), 3), ((2,), (3,), 3)], (3, 3))

    def test_rows_without_parts(self):
        self.check(ROW, (1, 2), [], (1, 2))
        self.check(("row", ROW, ("set", 0, 9), ROW, ("row", ROW, ROW), ("copy", 1, 0)), (1, 2),
                   [((1,), (), 9), ((4,), (9,), 9)], (9, 9))
        self.check(("both", ROW, ROW), (0,), [], (0,))
        self.check(("row", ("lend", 3, ROW), ("wait", 3), ("set", 0, 4)), (0,), [((2,), (), 4)], (4,))

    def test_a_both_by_least_places(self):
        self.check(("both", ("row", ("set", 0, 1), ("set", 1, 2)), ("row", ("copy", 2, 1), ("add", 2, 0))), (0, 0, 0),
                   [((0, 0), (), 1), ((0, 1), (), 2), ((1, 0), (2,), 2), ((1, 1), (2, 1), 3)], (1, 2, 3))

    def test_a_row_goes_on_behind_a_both_when_all_parts_are_through(self):
        body = ("row", ("both", ("set", 0, 1), ROW, ("set", 1, 1)), ("set", 2, 1))
        self.assertEqual(after((3, body), (0, 0, 0), [])[2], [(0, 0), (0, 2)])
        self.assertEqual(after((3, body), (0, 0, 0), [(0, 2)])[2], [(0, 0)])
        self.assertEqual(after((3, body), (0, 0, 0), [(0, 2), (0, 0)])[2], [(1,)])

    def test_looks_both_ways(self):
        body = ("row", ("look", 0, ("set", 1, 3), ("set", 1, 4)), ("add", 1, 0))
        self.check(body, (0, 9), [((0,), (0,), None), ((0, 1), (), 4), ((1,), (4, 0), 4)], (0, 4))
        for x in range(1, 10):
            self.check(body, (x, 9), [((0,), (x,), None), ((0, 0), (), 3), ((1,), (3, x), (3 + x) % 10)],
                       (x, (3 + x) % 10))

    def test_a_look_is_through_when_what_it_took_is(self):
        body = ("row", ("look", 0, ("both", ("set", 0, 0), ("set", 1, 1)), ROW), ("set", 1, 5))
        self.assertEqual(after((2, body), (1, 0), [(0,), (0, 0, 0)])[2], [(0, 0, 1)])
        self.assertEqual(after((2, body), (1, 0), [(0,), (0, 0, 0), (0, 0, 1)])[2], [(1,)])
        self.assertEqual(after((2, body), (0, 0), [(0,)])[2], [(1,)])

    def test_a_look_turns_by_what_its_cell_held_then(self):
        body = ("both", ("look", 0, ("set", 1, 3), ("set", 1, 4)), ("set", 0, 0))
        self.assertEqual(after((2, body), (1, 0), [(0,), (1,)])[2], [(0, 0)])
        self.assertEqual(after((2, body), (1, 0), [(1,), (0,)])[2], [(0, 1)])

    def test_a_lend_goes_on_at_once(self):
        body = ("row", ("lend", 5, ("row", ("set", 0, 1), ("set", 0, 2))), ("copy", 1, 0))
        self.assertEqual(after((2, body), (7, 0), [])[2], [(0, 0, 0), (1,)])
        self.check(body, (7, 0), [((0, 0, 0), (), 1), ((0, 0, 1), (), 2), ((1,), (2,), 2)], (2, 2))
        self.assertEqual(after((2, body), (7, 0), [(1,)]), ([((1,), (7,), 7)], (7, 7), [(0, 0, 0)]))
        self.check(("lend", 0, ("set", 0, 1)), (7,), [((0,), (), 1)], (1,))

    def test_a_wait_waits_for_what_was_lent(self):
        body = ("row", ("lend", 5, ("row", ("set", 0, 1), ("set", 0, 2))), ("set", 1, 1), ("wait", 5), ("copy", 1, 0))
        book = (2, body)
        self.assertEqual(after(book, (0, 0), [(1,)])[2], [(0, 0, 0)])
        self.assertEqual(after(book, (0, 0), [(1,), (0, 0, 0)])[2], [(0, 0, 1)])
        self.assertEqual(after(book, (0, 0), [(1,), (0, 0, 0), (0, 0, 1)])[2], [(3,)])
        self.assertEqual(after(book, (0, 0), [(0, 0, 0), (0, 0, 1)])[2], [(1,)])

    def test_a_lend_within_a_lend_is_through_at_once(self):
        body = ("row", ("lend", 1, ("lend", 2, ("set", 0, 1))), ("wait", 1), ("set", 1, 1))
        self.assertEqual(after((2, body), (0, 0), [])[2], [(0, 0, 0), (2,)])

    def test_waits_of_several_for_one(self):
        body = ("row", ("lend", 1, ("set", 0, 1)), ("both", ("row", ("wait", 1), ("add", 1, 0)), ("set", 2, 4),
                                                    ("lend", 2, ("row", ("wait", 1), ("add", 2, 0)))))
        self.assertEqual(after((3, body), (0, 0, 0), [])[2], [(0, 0), (1, 1)])
        self.assertEqual(after((3, body), (0, 0, 0), [(0, 0)])[2], [(1, 0, 1), (1, 1), (1, 2, 0, 1)])

    def test_a_wait_within_what_is_lent_and_a_wait_for_that(self):
        body = ("row", ("lend", 1, ("set", 0, 1)), ("lend", 2, ("wait", 1)), ("wait", 2), ("set", 1, 1))
        self.assertEqual(after((2, body), (0, 0), [])[2], [(0, 0)])
        self.assertEqual(after((2, body), (0, 0), [(0, 0)])[2], [(3,)])

    def test_all_that_was_lent_is_done_in_the_end(self):
        body = ("row", ("lend", 1, ("row", ("set", 0, 1), ("lend", 2, ("set", 1, 2)))), ("set", 2, 3))
        self.check(body, (0, 0, 0), [((0, 0, 0), (), 1), ((0, 0, 1, 0), (), 2), ((1,), (), 3)], (1, 2, 3))

    def test_by_chance_as_by_the_words_of_the_document(self):
        for book, cells in books_by_chance(11, 250, 60):
            self.assertEqual(run(book, cells), Slow(book, cells).weave([]))

    def test_great_works(self):
        self.assertEqual(run((2, chain(12)), (0, 0)), ([((0,) * 12, (), 1)], (1, 0)))
        book = (2, terms_in_all(60))
        self.assertEqual(run(book, (0, 0)), Slow(book, (0, 0)).weave([]))
        self.assertEqual(places(run(book, (0, 0))[0]), deed_places(book))


class TestWeave(unittest.TestCase):
    BOOK = (2, ("both", ("set", 0, 1), ("copy", 0, 1), ("add", 0, 0)))

    def order(self, *picks):
        return [place[0] for place in places(weave(self.BOOK, (4, 5), list(picks))[0])]

    def test_picks_choose_of_the_open_ones_by_places(self):
        self.assertEqual(self.order(0, 0, 0), [0, 1, 2])
        self.assertEqual(self.order(1, 0, 0), [1, 0, 2])
        self.assertEqual(self.order(2, 1, 0), [2, 1, 0])
        self.assertEqual(self.order(1, 1, 0), [1, 2, 0])

    def test_a_pick_counts_by_its_rest(self):
        self.assertEqual(self.order(3, 2, 1), [0, 1, 2])
        self.assertEqual(self.order(4, 3, 7), [1, 2, 0])
        self.assertEqual(self.order(5, 0, 0), [2, 0, 1])

    def test_picks_of_sixty_figures(self):
        great = 10 ** 59 + 1
        self.assertEqual(great % 3, 2)
        self.assertEqual(self.order(great, great), [2, 1, 0])
        nines = 10 ** 60 - 1
        self.assertEqual(self.order(nines, nines, nines), [0, 2, 1])

    def test_none_few_and_more_picks_than_deeds(self):
        self.assertEqual(self.order(), [0, 1, 2])
        self.assertEqual(self.order(2), [2, 0, 1])
        self.assertEqual(self.order(2, 1), [2, 1, 0])
        self.assertEqual(self.order(2, 1, 0, 5, 6, 7, 8), [2, 1, 0])
        self.assertEqual(self.order(*[1] * 70), [1, 2, 0])

    def test_what_is_told(self):
        self.assertEqual(weave(self.BOOK, (4, 5), [2, 1]),
                         ([((2,), (4, 4), 8), ((1,), (5,), 5), ((0,), (), 1)], (1, 5)))
        self.assertEqual(weave((1, ROW), (3,), [5, 6]), ([], (3,)))
        self.assertEqual(weave((1, ("set", 0, 4)), (3,), [5]), ([((), (), 4)], (4,)))

    def test_picks_where_one_alone_is_open(self):
        book = (2, ("row", ("set", 0, 1), ("both", ("set", 0, 2), ("set", 1, 3))))
        self.assertEqual(places(weave(book, (0, 0), [5, 1])[0]), [(0,), (1, 1), (1, 0)])

    def test_a_look_that_another_hand_turns(self):
        book = (2, ("both", ("look", 0, ("set", 1, 3), ("set", 1, 4)), ("set", 0, 0)))
        self.assertEqual(weave(book, (1, 9), [0, 1]), ([((0,), (1,), None), ((1,), (), 0), ((0, 0), (), 3)], (0, 3)))
        self.assertEqual(weave(book, (1, 9), [1]), ([((1,), (), 0), ((0,), (0,), None), ((0, 1), (), 4)], (0, 4)))

    def test_without_picks_it_is_run(self):
        for book, cells in books_by_chance(12, 100, 60):
            self.assertEqual(weave(book, cells, []), run(book, cells))
            self.assertEqual(weave(book, cells, [0] * 70), run(book, cells))

    def test_by_chance_as_by_the_words_of_the_document(self):
        chance = Chance(13)
        for book, cells in books_by_chance(14, 250, 60):
            for most in (1, 9, 10 ** 60 - 1):
                picks = [chance.dice.randint(0, most) for _ in range(chance.dice.choice((1, 5, 70)))]
                self.assertEqual(weave(book, cells, picks), Slow(book, cells).weave(picks))


class TestAfter(unittest.TestCase):
    BOOK = (3, ("row", ("both", ("set", 0, 3), ("look", 1, ("add", 1, 1), ("add", 2, 0))), ("lend", 0, ("set", 1, 6)),
                ("copy", 2, 1)))

    def refused(self, number, steps, book=None, cells=(1, 0, 2)):
        with self.assertRaises(NoStep) as caught:
            after(book or self.BOOK, cells, steps)
        self.assertEqual(caught.exception.number, number)
        self.assertIsInstance(caught.exception, WorkError)

    def test_no_place(self):
        self.assertEqual(after(self.BOOK, (1, 0, 2), []), ([], (1, 0, 2), [(0, 0), (0, 1)]))
        self.assertEqual(after((1, ROW), (4,), []), ([], (4,), []))
        self.assertEqual(after((1, ("set", 0, 1)), (4,), []), ([], (4,), [()]))

    def test_not_to_the_end(self):
        self.assertEqual(after(self.BOOK, (1, 0, 2), [(0, 1)]), ([((0, 1), (0,), None)], (1, 0, 2), [(0, 0), (0, 1, 1)]))
        self.assertEqual(after(self.BOOK, (1, 0, 2), [(0, 1), (0, 1, 1)]),
                         ([((0, 1), (0,), None), ((0, 1, 1), (2, 1), 3)], (1, 0, 3), [(0, 0)]))
        self.assertEqual(after(self.BOOK, (1, 0, 2), [(0, 1), (0, 0), (0, 1, 1)])[1:], ((3, 0, 5), [(1, 0), (2,)]))

    def test_to_the_end(self):
        steps = [(0, 0), (0, 1), (0, 1, 1), (2,), (1, 0)]
        self.assertEqual(after(self.BOOK, (1, 0, 2), steps), ([
            ((0, 0), (), 3), ((0, 1), (0,), None), ((0, 1, 1), (2, 3), 5), ((2,), (0,), 0), ((1, 0), (), 6)],
            (3, 6, 0), []))
        self.assertEqual(after((1, ("set", 0, 1)), (4,), [()]), ([((), (), 1)], (1,), []))

    def test_kinds_of_values(self):
        told = after(self.BOOK, (1, 0, 2), [(0, 0)])
        self.assertIsInstance(told, tuple)
        self.assertEqual([isinstance(told[0], list), isinstance(told[1], tuple), isinstance(told[2], list)], [True] * 3)

    def test_a_place_done_twice(self):
        self.refused(1, [(0, 0), (0, 0)])
        self.refused(2, [(0, 0), (0, 1), (0, 0), (0, 1, 1)])
        self.refused(1, [(), ()], (1, ("set", 0, 1)), (0,))
        self.refused(5, [(0, 0), (0, 1), (0, 1, 1), (2,), (1, 0), (1, 0)])

    def test_a_place_not_open_yet(self):
        self.refused(0, [(2,)])
        self.refused(0, [(1, 0)])
        self.refused(0, [(0, 1, 1)])
        self.refused(2, [(0, 0), (0, 1), (2,), (0, 1, 1)])
        body = ("row", ("lend", 0, ("set", 0, 1)), ("wait", 0), ("set", 0, 2))
        self.refused(0, [(2,), (0, 0)], (1, body), (0,))

    def test_the_part_that_a_look_did_not_take(self):
        self.refused(2, [(0, 0), (0, 1), (0, 1, 0)])
        self.refused(2, [(0, 0), (0, 1), (0, 1, 1)], None, (1, 1, 2))

    def test_a_place_of_a_term_that_is_no_deed(self):
        for place in ((), (0,), (1,)):
            self.refused(0, [place])
        steps = [(0, 0), (0, 1), (0, 1, 1)]
        self.refused(3, [*steps, (1,)])
        self.refused(0, [(1,)], (1, ("row", ("lend", 0, ROW), ("wait", 0))), (0,))
        self.refused(0, [()], (1, ROW), (0,))

    def test_a_place_of_no_term(self):
        for place in ((5,), (0, 2), (0, 0, 0), (0, 1, 2), (10 ** 60,), (0,) * 30, (9,) * 30):
            self.refused(0, [place])
            self.refused(1, [(0, 0), place])

    def test_a_number_below_nought(self):
        for place in ((-1,), (0, -1), (-3, 0), (0, -2), (-1,) * 30):
            self.refused(0, [place])
            self.refused(1, [(0, 0), place])
        self.refused(0, [(-1,)], (1, ("both", ("set", 0, 1), ("set", 0, 2))), (0,))

    def test_an_empty_place(self):
        self.refused(0, [()])
        self.refused(1, [(0, 0), ()])
        self.refused(0, [(0,)], (1, ("set", 0, 1)), (0,))

    def test_the_first_of_several(self):
        self.refused(1, [(0, 0), (7,), (), (0, 0)])
        self.refused(69, [*[(k // 6, k % 6) for k in range(36)], *[(6, k) for k in range(33)], (6, 33)], self.long_book(),
                     (0,))

    def long_book(self):
        """A work of 69 deeds, longer than a book may be, as lists to seventy places may be handed in."""
        six = ("row", *[("set", 0, 1)] * 6)
        return (1, ("row", *[six] * 6, ("row", *[("set", 0, 2)] * 33)))

    def test_by_chance_as_by_the_words_of_the_document(self):
        chance = Chance(15)
        for book, cells in books_by_chance(16, 150, 60):
            slow = Slow(book, cells)
            steps = []
            while True:
                ready = slow.open_deeds()
                self.assertEqual(after(book, cells, steps), (slow.done, tuple(slow.now), ready))
                self.assertEqual(ready, sorted(ready))
                for place in terms_by_hand(book):
                    if place not in ready:
                        self.refused(len(steps), [*steps, place], book, cells)
                        break
                if not ready:
                    break
                steps.append(chance.dice.choice(ready))
                slow.do(steps[-1])
            self.assertEqual(len(steps), len(slow.done))

    def test_each_place_in_turn(self):
        book = (2, ("row", ("lend", 1, ("look", 0, ("set", 1, 1), ROW)), ("both", ("add", 0, 1), ("copy", 1, 0)),
                    ("wait", 1), ("set", 0, 5)))
        for cells in ((0, 3), (2, 3)):
            for steps in ([], [(0, 0)], [(1, 1)], [(0, 0), (1, 1)], [(1, 1), (1, 0)]):
                ready = after(book, cells, steps)[2]
                for place in [*terms_by_hand(book), (2, 0), (9,)]:
                    if place in ready:
                        self.assertEqual(places(after(book, cells, [*steps, place])[0]), [*steps, place])
                    else:
                        self.refused(len(steps), [*steps, place], book, cells)


class TestBeyondTheLimits(unittest.TestCase):
    def mended_like(self):
        """A body as mending makes it: more than six parts, more than sixty terms, several waits for one name."""
        parts = []
        for name in range(6):
            parts += [("lend", name, ("row", ("set", 0, name), ("add", 1, 0))), ("wait", name), ("wait", name)]
        deep = chain(25)
        return (2, ("row", *parts, ("row", *[("add", 0, 1)] * 30), deep, ("row", ("lend", 9, deep), ("wait", 9))))

    def test_run_weave_and_after(self):
        book = self.mended_like()
        self.assertGreater(len(terms_by_hand(book)), 60)
        told = run(book, (1, 2))
        self.assertEqual(told, Slow(book, (1, 2)).weave([]))
        self.assertEqual(weave(book, (1, 2), [3] * 70), Slow(book, (1, 2)).weave([3] * 70))
        self.assertEqual(after(book, (1, 2), places(told[0])), (*told, []))


class TestNothingIsChanged(unittest.TestCase):
    BOOK = TestAfter.BOOK

    def test_lists_handed_in(self):
        for picks in ([], [1, 0, 10 ** 60 - 1], [2] * 70):
            kept = copy.deepcopy(picks)
            weave(self.BOOK, (1, 0, 2), picks)
            self.assertEqual(picks, kept)
        for steps in ([], [(0, 1)], [(0, 0), (0, 1)], [(0, 0), (5,)], [()], [(-1,), (0, 0)]):
            kept = copy.deepcopy(steps)
            try:
                after(self.BOOK, (1, 0, 2), steps)
            except NoStep:
                pass
            self.assertEqual(steps, kept)

    def test_told_lists_are_the_askers_own(self):
        steps = [(0, 1)]
        asks = (lambda: run(self.BOOK, (1, 0, 2)), lambda: weave(self.BOOK, (1, 0, 2), [1]),
                lambda: after(self.BOOK, (1, 0, 2), steps))
        for ask in asks:
            first = ask()
            kept = copy.deepcopy(first)
            for told in first:
                if isinstance(told, list):
                    told.reverse()
                    told.append(None)
            self.assertEqual(ask(), kept)
        self.assertEqual(steps, [(0, 1)])

    def test_lists_handed_in_are_not_kept(self):
        steps = [(0, 1)]
        told = after(self.BOOK, (1, 0, 2), steps)
        kept = copy.deepcopy(told)
        steps.clear()
        self.assertEqual(told, kept)
        self.assertIsNot(told[0], steps)
        self.assertIsNot(told[2], steps)

    def test_a_refused_call_leaves_nothing_behind(self):
        kept = run(self.BOOK, (1, 0, 2))
        for steps in ([(0, 0), (0, 0)], [(2,)], [()]):
            with self.assertRaises(NoStep):
                after(self.BOOK, (1, 0, 2), steps)
            self.assertEqual(run(self.BOOK, (1, 0, 2)), kept)
            self.assertEqual(after(self.BOOK, (1, 0, 2), []), ([], (1, 0, 2), [(0, 0), (0, 1)]))


if __name__ == "__main__":
    unittest.main()
