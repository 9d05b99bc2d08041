"""Point 21: the eager plan for one to six hands, a longest chain, and which lists are plans."""

import copy
import itertools
import time
import unittest

from helping import (
    Chance, before_by_hand, books_by_chance, deeds_by_hand, many_roads, mended_like, places_done, side_by_side,
    somes_by_chance)
from sidework.books import need_book
from sidework.hands import eager, is_plan, longest
from sidework.roads import is_before
from sidework.runs import run

SET = ("set", 0, 1)
ROW = ("row",)
STRANGE = ((9,), (-1,), (0, 0, 0), (0, 5), (0,) * 30, (10 ** 60,))
HANDS = range(1, 7)


def eager_by_hand(before, some, h):
    """Point 21 word by word, as a second way: the tick of each place, one tick behind the other."""
    tick_of = {}
    tick = 0
    while len(tick_of) < len(some):
        taken = []
        for place in some:
            earlier = [p for p in some if (p, place) in before]
            if place not in tick_of and all(p in tick_of for p in earlier) and len(taken) < h:
                taken.append(place)
        for place in taken:
            tick_of[place] = tick
        tick += 1
    return [[place for place in some if tick_of[place] == number] for number in range(tick)]


def is_plan_by_hand(before, some, h, plan):
    """Point 21 word by word, as a second way."""
    for tick in plan:
        if not 1 <= len(tick) <= h or any(tick[at] >= tick[at + 1] for at in range(len(tick) - 1)):
            return False
    for place in some:
        if sum(tick.count(place) for tick in plan) != 1:
            return False
    if any(place not in some for tick in plan for place in tick):
        return False
    for early, tick in enumerate(plan):
        for other in plan[:early + 1]:
            if any((p, q) in before for p in tick for q in other):
                return False
    return True


def longest_by_hand(before, some):
    """How many places a chain has at most, each list of some being tried."""
    best = 0
    for many in range(len(some) + 1):
        for chain in itertools.combinations(some, many):
            if all(pair in before for pair in zip(chain, chain[1:])):
                best = many
    return best


class HandsCase(unittest.TestCase):
    def check(self, book, some):
        """The eager plans and the longest chain beside the slow ways, with the bounds that are told."""
        before = before_by_hand(book)
        chain = longest(book, some)
        self.assertIsInstance(chain, list)
        self.assertTrue(set(chain) <= set(some))
        self.assertTrue(all(pair in before for pair in zip(chain, chain[1:])))
        self.assertEqual(chain == [], some == [])
        for h in HANDS:
            plan = eager(book, some, h)
            self.assertEqual(plan, eager_by_hand(before, some, h))
            self.assertTrue(is_plan_by_hand(before, some, h, plan))
            self.assertIs(is_plan(book, some, h, plan), True)
            self.assertLessEqual(len(plan) * h, len(some) + (h - 1) * len(chain))
            self.assertGreaterEqual(len(plan), len(chain))
            self.assertGreaterEqual(len(plan) * h, len(some))
        return len(chain)


class TestEager(HandsCase):
    def test_no_deeds(self):
        for book in ((1, ROW), (1, SET), many_roads()):
            for h in HANDS:
                self.assertEqual(eager(book, [], h), [])

    def test_one_deed(self):
        for h in HANDS:
            self.assertEqual(eager((1, SET), [()], h), [[()]])

    def test_kinds_of_values(self):
        plan = eager((1, ("both", SET, SET, SET)), [(0,), (1,), (2,)], 2)
        self.assertEqual(plan, [[(0,), (1,)], [(2,)]])
        self.assertIsInstance(plan, list)
        for tick in plan:
            self.assertIsInstance(tick, list)

    def test_side_by_side(self):
        some = [(k,) for k in range(4)]
        book = (1, ("both", SET, SET, SET, SET))
        for h, sizes in ((1, [1, 1, 1, 1]), (2, [2, 2]), (3, [3, 1]), (4, [4]), (5, [4]), (6, [4])):
            self.assertEqual([len(tick) for tick in eager(book, some, h)], sizes)

    def test_one_behind_the_other(self):
        some = [(k,) for k in range(5)]
        for h in HANDS:
            self.assertEqual(eager((1, ("row", SET, SET, SET, SET, SET)), some, h), [[place] for place in some])

    def test_the_least_places_first_though_others_would_be_better(self):
        book = (1, ("both", SET, SET, ("row", SET, SET, SET)))
        some = [(0,), (1,), (2, 0), (2, 1), (2, 2)]
        self.assertEqual(eager(book, some, 2), [[(0,), (1,)], [(2, 0)], [(2, 1)], [(2, 2)]])
        self.assertEqual(eager(book, some, 3), [[(0,), (1,), (2, 0)], [(2, 1)], [(2, 2)]])

    def test_a_tick_opens_nothing_in_the_same_tick(self):
        book = (1, ("both", ("row", SET, SET), SET))
        self.assertEqual(eager(book, [(0, 0), (0, 1), (1,)], 6), [[(0, 0), (1,)], [(0, 1)]])

    def test_only_those_of_some_count(self):
        book = (1, ("row", SET, ("lend", 1, SET), SET, ("wait", 1), SET))
        self.assertEqual(eager(book, [(0,), (1, 0), (2,), (4,)], 2), [[(0,)], [(1, 0), (2,)], [(4,)]])
        self.assertEqual(eager(book, [(1, 0), (2,)], 2), [[(1, 0), (2,)]])
        self.assertEqual(eager(book, [(0,), (4,)], 2), [[(0,)], [(4,)]])

    def test_by_chance_beside_the_slow_way(self):
        chains = set()
        for seed, count, size in ((91, 150, 14), (92, 25, 60)):
            for book, some in somes_by_chance(seed, count, size):
                chains.add(self.check(book, some))
        self.assertGreater(len(chains), 8)

    def test_what_runs_did(self):
        for book, cells in books_by_chance(93, 40, 30):
            self.check(book, sorted(places_done(run(book, cells)[0])))

    def test_fifty_deeds_in_seconds(self):
        sets = side_by_side([("set", k % 6, 1) for k in range(44)])
        for book in (many_roads(), (6, sets)):
            need_book(book)
            some = deeds_by_hand(book)[:50]
            begun = time.monotonic()
            for h in HANDS:
                eager(book, some, h)
            longest(book, some)
            self.assertLess(time.monotonic() - begun, 5)
            self.check(book, some)

    def test_more_parts_than_a_book_may_have(self):
        book = mended_like()
        self.check(book, deeds_by_hand(book)[:50])

    def test_no_hand_at_all_comes_to_an_end(self):
        for h in (0, -1):
            self.assertFalse(is_plan((1, SET), [()], h, eager((1, SET), [()], h)))


class TestLongest(HandsCase):
    def test_no_deeds(self):
        self.assertEqual(longest((1, ROW), []), [])
        self.assertEqual(longest(many_roads(), []), [])

    def test_told_chains(self):
        self.assertEqual(longest((1, SET), [()]), [()])
        self.assertEqual(longest((1, ("row", SET, SET)), [(0,), (1,)]), [(0,), (1,)])
        book = (1, ("both", SET, ("row", SET, SET, SET), ("row", SET, SET)))
        self.assertEqual(longest(book, deeds_by_hand(book)), [(1, 0), (1, 1), (1, 2)])
        self.assertEqual(longest(book, [(0,), (1, 2), (2, 0), (2, 1)]), [(2, 0), (2, 1)])

    def test_the_least_first_step_is_not_the_longest_way(self):
        book = (1, ("row", ("lend", 1, SET), ("lend", 2, ("row", SET, SET)), ("wait", 2), SET, ("wait", 1), SET))
        some = deeds_by_hand(book)
        self.assertEqual(longest(book, some), [(1, 0, 0), (1, 0, 1), (3,), (5,)])

    def test_by_chance_beside_all_lists(self):
        found = set()
        for book, some in somes_by_chance(94, 300, 16):
            if len(some) <= 10:
                many = self.check(book, some)
                self.assertEqual(many, longest_by_hand(before_by_hand(book), some))
                found.add(many)
        self.assertGreater(len(found), 6)

    def test_no_plan_has_fewer_ticks(self):
        for book, some in somes_by_chance(95, 100, 30):
            # With as many hands as deeds the eager plan needs just the chain.
            self.assertEqual(len(eager(book, some, 50)), len(longest(book, some)))


class TestIsPlan(HandsCase):
    BOOK = (1, ("row", SET, ("both", SET, ("row", SET, SET), SET), SET))
    SOME = [(0,), (1, 0), (1, 1, 0), (1, 1, 1), (1, 2), (2,)]
    RIGHT = [[(0,)], [(1, 0), (1, 1, 0)], [(1, 1, 1), (1, 2)], [(2,)]]

    def judged(self, plan, h=2, some=None):
        some = self.SOME if some is None else some
        told = is_plan(self.BOOK, some, h, plan)
        self.assertIsInstance(told, bool)
        self.assertEqual(told, is_plan_by_hand(before_by_hand(self.BOOK), some, h, plan))
        return told

    def test_no_deeds(self):
        for h in HANDS:
            self.assertTrue(self.judged([], h, []))
            self.assertFalse(self.judged([[]], h, []))
            self.assertFalse(self.judged([[(0,)]], h, []))
            self.assertFalse(self.judged([], h))

    def test_eager_plans(self):
        for h in HANDS:
            for more in HANDS:
                self.assertEqual(self.judged(eager(self.BOOK, self.SOME, h), more), min(h, 3) <= more)

    def test_one_deed_a_tick(self):
        for h in HANDS:
            self.assertTrue(self.judged([[place] for place in self.SOME], h))
            self.assertFalse(self.judged([[place] for place in reversed(self.SOME)], h))

    def test_all_in_one_tick(self):
        for h in HANDS:
            self.assertFalse(self.judged([self.SOME], h))
        some = [(1, 0), (1, 1, 1), (1, 2)]
        self.assertTrue(self.judged([some], 3, some))
        self.assertTrue(self.judged([some], 4, some))
        self.assertFalse(self.judged([some], 2, some))

    def test_an_empty_tick(self):
        self.assertTrue(self.judged(self.RIGHT))
        for at in range(len(self.RIGHT) + 1):
            self.assertFalse(self.judged([*self.RIGHT[:at], [], *self.RIGHT[at:]]))

    def test_a_tick_of_more_than_h(self):
        plan = [[(0,)], [(1, 0), (1, 1, 0), (1, 2)], [(1, 1, 1)], [(2,)]]
        for h in HANDS:
            self.assertEqual(self.judged(plan, h), h >= 3)
            self.assertEqual(self.judged(self.RIGHT, h), h >= 2)

    def test_a_tick_that_does_not_rise(self):
        self.assertFalse(self.judged([[(0,)], [(1, 1, 0), (1, 0)], [(1, 1, 1), (1, 2)], [(2,)]]))
        self.assertFalse(self.judged([[(0,)], [(1, 0), (1, 1, 0)], [(1, 2), (1, 1, 1)], [(2,)]]))
        for order in itertools.permutations([(1, 0), (1, 1, 0), (1, 2)]):
            plan = [[(0,)], list(order), [(1, 1, 1)], [(2,)]]
            self.assertEqual(self.judged(plan, 3), list(order) == sorted(order))

    def test_places_left_out(self):
        for place in self.SOME:
            plan = [[one for one in tick if one != place] for tick in self.RIGHT]
            self.assertFalse(self.judged(plan))
            fewer = [tick for tick in plan if tick]
            self.assertFalse(self.judged(fewer))
            self.assertTrue(self.judged(fewer, 2, [one for one in self.SOME if one != place]))

    def test_places_told_twice(self):
        for place in self.SOME:
            for at in range(len(self.RIGHT) + 1):
                self.assertFalse(self.judged([*self.RIGHT[:at], [place], *self.RIGHT[at:]], 6))
            for at in range(len(self.RIGHT)):
                plan = copy.deepcopy(self.RIGHT)
                plan[at] = sorted([*plan[at], place])
                self.assertFalse(self.judged(plan, 6))

    def test_places_not_of_some(self):
        for place in ((), (1,), (1, 1), (3,), *STRANGE):
            for at in range(len(self.RIGHT) + 1):
                self.assertFalse(self.judged([*self.RIGHT[:at], [place], *self.RIGHT[at:]], 6))
            for at in range(len(self.RIGHT)):
                plan = copy.deepcopy(self.RIGHT)
                plan[at] = sorted([*plan[at], place])
                self.assertFalse(self.judged(plan, 6))
                plan[at] = sorted([place, *self.RIGHT[at][1:]])
                self.assertFalse(self.judged(plan, 6))
            self.assertFalse(self.judged([[place]], 6, []))
        self.assertFalse(self.judged(self.RIGHT, 2, self.SOME[1:]))

    def test_too_early(self):
        self.assertFalse(self.judged([[(0,), (1, 0)], [(1, 1, 0)], [(1, 1, 1), (1, 2)], [(2,)]]))
        self.assertFalse(self.judged([[(0,)], [(1, 0), (1, 2)], [(1, 1, 0), (1, 1, 1)], [(2,)]]))
        self.assertFalse(self.judged([[(0,)], [(1, 1, 0), (1, 2)], [(1, 0)], [(1, 1, 1), (2,)]]))
        self.assertFalse(self.judged([[(2,)], *self.RIGHT[:-1]]))
        for order in itertools.permutations(self.RIGHT):
            self.assertEqual(self.judged(list(order)), list(order) == self.RIGHT)

    def test_later_than_need_be(self):
        self.assertTrue(self.judged([[(0,)], [(1, 2)], [(1, 0)], [(1, 1, 0)], [(1, 1, 1)], [(2,)]]))
        self.assertTrue(self.judged([[(0,)], [(1, 1, 0)], [(1, 1, 1), (1, 2)], [(1, 0)], [(2,)]]))

    def test_by_chance(self):
        chance = Chance(96)
        told = {True: 0, False: 0}
        for book, some in somes_by_chance(97, 500, 10):
            before = before_by_hand(book)
            plan = [[] for _ in range(chance.dice.randint(1, 5))]
            for place in some:
                chance.dice.choice(plan).append(place)
            if chance.dice.random() < 0.8:
                plan = [tick for tick in plan if tick]
            h = chance.dice.randint(1, 6)
            right = is_plan_by_hand(before, some, h, plan)
            told[right] += 1
            self.assertIs(is_plan(book, some, h, plan), right)
        self.assertTrue(told[True] > 50 and told[False] > 50, told)

    def test_beside_is_before(self):
        for book, some in somes_by_chance(98, 60, 10):
            for p, q in itertools.permutations(some, 2):
                self.assertEqual(is_plan(book, sorted([p, q]), 1, [[p], [q]]), not is_before(book, q, p))


class TestNothingIsChanged(unittest.TestCase):
    BOOK, SOME, RIGHT = TestIsPlan.BOOK, TestIsPlan.SOME, TestIsPlan.RIGHT

    def test_what_is_handed_in(self):
        for plan in (self.RIGHT, self.RIGHT[::-1], [], [[]], [self.SOME], [self.SOME[::-1]], [[(9,), (8,)]]):
            some, handed = list(self.SOME), copy.deepcopy(plan)
            for h in HANDS:
                is_plan(self.BOOK, some, h, handed)
                eager(self.BOOK, some, h)
            longest(self.BOOK, some)
            self.assertEqual((some, handed), (self.SOME, plan))

    def test_what_is_told_is_the_askers_own(self):
        for some in ([], [(0,)], list(self.SOME)):
            kept = list(some)
            for h in HANDS:
                plan = eager(self.BOOK, some, h)
                again = copy.deepcopy(plan)
                for tick in plan:
                    tick.append(None)
                plan.append(None)
                self.assertEqual(some, kept)
                self.assertEqual(eager(self.BOOK, some, h), again)
            chain = longest(self.BOOK, some)
            again = list(chain)
            chain.append(None)
            self.assertEqual(some, kept)
            self.assertEqual(longest(self.BOOK, some), again)


if __name__ == "__main__":
    unittest.main()
