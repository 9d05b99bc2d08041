"""Point 22: plans for two hands with as few ticks as any, and the blocks that show it."""

import copy
import itertools
import random
import time
import unittest

from helping import (
    Chance, before_by_hand, books_by_chance, deeds_by_hand, many_roads, mended_like, places_done, side_by_side,
    somes_by_chance)
from sidework.books import need_book
from sidework.hands import eager, is_plan, longest
from sidework.pairs import are_blocks, two_hands
from sidework.runs import run

SET = ("set", 0, 1)
ROW = ("row",)
STRANGE = ((9,), (-1,), (0, 0, 0), (0, 5), (0,) * 30, (10 ** 60,))


def are_blocks_by_hand(before, some, blocks):
    """Point 22 word by word, as a second way."""
    for block in blocks:
        if not block or any(block[at] >= block[at + 1] for at in range(len(block) - 1)):
            return False
        if any(place not in some for place in block):
            return False
    if any(set(one) & set(other) for one, other in itertools.combinations(blocks, 2)):
        return False
    for at in range(len(blocks) - 1):
        if not all(pair in before for pair in itertools.product(blocks[at], blocks[at + 1])):
            return False
    return True


def halves(blocks):
    """How many ticks the blocks need at least."""
    return sum(-(-len(block) // 2) for block in blocks)


def fewest_ticks(before, some):
    """The ticks that two hands need, all plans being gone through, tick by tick."""
    earlier = {q: frozenset(p for p in some if (p, q) in before) for q in some}
    states = {frozenset()}
    ticks = 0
    while frozenset(some) not in states:
        after = set()
        for done in states:
            free = [q for q in some if q not in done and earlier[q] <= done]
            for many in (1, 2):
                after |= {done | set(tick) for tick in itertools.combinations(free, many)}
        states = after
        ticks += 1
    return ticks


def spine(dice, count):
    """A body of many lends and waits: a row in which later deeds wait for earlier lends, here and there."""
    parts, names = [], list(range(10))
    lent = []
    for _ in range(count):
        way = dice.random()
        if way < 0.45 and names:
            name = names.pop()
            waits = [("wait", h) for h in dice.sample(lent, dice.randint(0, min(2, len(lent))))]
            inner = ("row", *waits, *[SET] * dice.randint(1, 3))
            parts.append(("lend", name, dice.choice((SET, inner, ("both", SET, inner)))))
            lent.append(name)
        elif way < 0.7 and lent:
            parts.append(("wait", dice.choice(lent)))
        else:
            parts.append(SET)
    while len(parts) > 6:
        # The tail goes within, where all that was lent ahead of it is around.
        parts = [*parts[:-6], ("row", *parts[-6:])]
    return ("row", *parts)


class PairsCase(unittest.TestCase):
    def check(self, book, some):
        """That plan and blocks are such, and show one another to be as good as any; gives the ticks."""
        told = two_hands(book, some)
        self.assertIsInstance(told, tuple)
        plan, blocks = told
        before = before_by_hand(book)
        self.assertIs(is_plan(book, some, 2, plan), True)
        self.assertIs(are_blocks(book, some, blocks), True)
        self.assertTrue(are_blocks_by_hand(before, some, blocks))
        self.assertEqual(sorted(place for tick in plan for place in tick), some)
        for early, tick in enumerate(plan):
            self.assertTrue(1 <= len(tick) <= 2 and tick == sorted(tick))
            self.assertFalse(any((p, q) in before for p in tick for other in plan[:early + 1] for q in other))
        self.assertEqual(halves(blocks), len(plan))
        return len(plan)


class TestTwoHands(PairsCase):
    def test_no_deeds(self):
        for book in ((1, ROW), (1, SET), many_roads()):
            self.assertEqual(two_hands(book, []), ([], []))

    def test_one_deed(self):
        self.assertEqual(two_hands((1, SET), [()]), ([[()]], [[()]]))

    def test_kinds_of_values(self):
        plan, blocks = two_hands((1, ("both", SET, SET, SET)), [(0,), (1,), (2,)])
        for lists in (plan, blocks):
            self.assertIsInstance(lists, list)
            for one in lists:
                self.assertIsInstance(one, list)

    def test_one_behind_the_other(self):
        some = [(k,) for k in range(5)]
        book = (1, ("row", SET, SET, SET, SET, SET))
        self.assertEqual(two_hands(book, some), ([[place] for place in some], [[place] for place in some]))

    def test_side_by_side(self):
        for many in range(2, 45):
            book = (1, side_by_side([SET] * many))
            self.assertEqual(self.check(book, deeds_by_hand(book)), (many + 1) // 2)

    def test_better_than_eager(self):
        book = (1, ("both", SET, SET, ("row", SET, SET, SET)))
        some = deeds_by_hand(book)
        self.assertEqual(len(eager(book, some, 2)), 4)
        self.assertEqual(self.check(book, some), 3)

    def test_lends_that_are_waited_for_one_by_one(self):
        body = ("row", ("lend", 1, SET), ("lend", 2, SET), ("lend", 3, SET), ("wait", 1),
                ("row", ("lend", 4, SET), ("wait", 2), ("lend", 5, SET), ("wait", 3), SET))
        book = (1, body)
        need_book(book)
        some = deeds_by_hand(book)
        self.assertEqual(self.check(book, some), fewest_ticks(before_by_hand(book), some))

    def test_blocks_between_which_all_must_pass(self):
        three = ("both", SET, SET, SET)
        book = (1, ("row", three, three, three))
        some = deeds_by_hand(book)
        self.assertEqual(self.check(book, some), 6)
        self.assertEqual(two_hands(book, some)[1], [[(at, k) for k in range(3)] for at in range(3)])

    def test_only_those_of_some_count(self):
        book = (1, ("row", SET, ("both", SET, SET), SET))
        self.assertEqual(self.check(book, [(0,), (1, 0), (1, 1), (2,)]), 3)
        self.assertEqual(self.check(book, [(1, 0), (1, 1)]), 1)
        self.assertEqual(self.check(book, [(0,), (1, 1), (2,)]), 3)

    def test_the_fewest_of_all_plans(self):
        better = 0
        for book, some in somes_by_chance(101, 500, 16):
            if len(some) <= 9:
                ticks = self.check(book, some)
                self.assertEqual(ticks, fewest_ticks(before_by_hand(book), some))
                better += ticks < len(eager(book, some, 2))
        self.assertGreater(better, 5)

    def test_lends_and_waits(self):
        dice = random.Random(102)
        better = 0
        for size in [6] * 60 + [11] * 40:
            book = (1, spine(dice, size))
            need_book(book)
            some = deeds_by_hand(book)
            ticks = self.check(book, some)
            better += ticks < len(eager(book, some, 2))
            if len(some) <= 10:
                self.assertEqual(ticks, fewest_ticks(before_by_hand(book), some))
        self.assertGreater(better, 3)

    def test_by_chance(self):
        better = 0
        for seed, count, size in ((103, 60, 30), (104, 30, 60)):
            for book, some in somes_by_chance(seed, count, size):
                ticks = self.check(book, some)
                self.assertTrue(len(longest(book, some)) <= ticks <= len(eager(book, some, 2)))
                better += ticks < len(eager(book, some, 2))
        self.assertGreater(better, 5)

    def test_what_runs_did(self):
        for book, cells in books_by_chance(105, 40, 40):
            self.check(book, places_done(run(book, cells)[0]))

    def test_fifty_deeds_in_seconds(self):
        begun = time.monotonic()
        strands = [("row", SET, SET, SET) if k % 2 else ("row", SET, SET) for k in range(14)]
        for book in (many_roads(), (1, side_by_side([SET] * 45)), (1, side_by_side(strands)), mended_like()):
            self.check(book, deeds_by_hand(book)[:50])
        self.assertLess(time.monotonic() - begun, 20)


class TestAreBlocks(PairsCase):
    BOOK = (1, ("row", SET, ("both", SET, ("row", SET, SET), SET), ("both", SET, SET), SET))
    SOME = [(0,), (1, 0), (1, 1, 0), (1, 1, 1), (1, 2), (2, 0), (2, 1), (3,)]
    RIGHT = [[(0,)], [(1, 0), (1, 1, 0), (1, 1, 1), (1, 2)], [(2, 0), (2, 1)], [(3,)]]

    def judged(self, blocks, some=None):
        some = self.SOME if some is None else some
        told = are_blocks(self.BOOK, some, blocks)
        self.assertIsInstance(told, bool)
        self.assertEqual(told, are_blocks_by_hand(before_by_hand(self.BOOK), some, blocks))
        return told

    def test_an_empty_list(self):
        self.assertTrue(self.judged([]))
        self.assertTrue(self.judged([], []))

    def test_an_empty_block(self):
        self.assertTrue(self.judged(self.RIGHT))
        self.assertFalse(self.judged([[]]))
        self.assertFalse(self.judged([[]], []))
        for at in range(len(self.RIGHT) + 1):
            self.assertFalse(self.judged([*self.RIGHT[:at], [], *self.RIGHT[at:]]))

    def test_a_block_that_does_not_rise(self):
        for order in itertools.permutations(self.RIGHT[1]):
            blocks = [self.RIGHT[0], list(order), *self.RIGHT[2:]]
            self.assertEqual(self.judged(blocks), list(order) == self.RIGHT[1])
        self.assertFalse(self.judged([[(2, 1), (2, 0)]]))

    def test_places_told_twice(self):
        for place in self.SOME:
            self.assertFalse(self.judged([[place, place]]))
            self.assertFalse(self.judged([[place], [place]]))
            for at in range(len(self.RIGHT)):
                blocks = copy.deepcopy(self.RIGHT)
                blocks[at] = sorted([*blocks[at], place])
                self.assertFalse(self.judged(blocks))
            self.assertFalse(self.judged([[place], *self.RIGHT]))
            self.assertFalse(self.judged([*self.RIGHT, [place]]))

    def test_places_not_of_some(self):
        for place in ((), (1,), (1, 1), (2,), (4,), *STRANGE):
            self.assertFalse(self.judged([[place]]))
            self.assertFalse(self.judged([[place]], []))
            for at in range(len(self.RIGHT)):
                blocks = copy.deepcopy(self.RIGHT)
                blocks[at] = sorted([*blocks[at], place])
                self.assertFalse(self.judged(blocks))
                blocks[at] = sorted([place, *self.RIGHT[at][1:]])
                self.assertFalse(self.judged(blocks))
        self.assertFalse(self.judged(self.RIGHT, self.SOME[1:]))
        self.assertFalse(self.judged(self.RIGHT[:1], self.SOME[1:]))

    def test_places_left_out(self):
        for place in self.SOME:
            blocks = [[one for one in block if one != place] for block in self.RIGHT]
            self.assertTrue(self.judged([block for block in blocks if block]))
        for at in range(len(self.RIGHT)):
            self.assertTrue(self.judged(self.RIGHT[:at] + self.RIGHT[at + 1:]))
            self.assertTrue(self.judged([self.RIGHT[at]]))

    def test_blocks_exchanged(self):
        for order in itertools.permutations(self.RIGHT):
            self.assertEqual(self.judged(list(order)), list(order) == self.RIGHT)

    def test_some_of_a_block_that_do_not_come_before_the_next(self):
        self.assertTrue(self.judged([[(1, 1, 0)], [(1, 1, 1)]]))
        self.assertFalse(self.judged([[(1, 0), (1, 1, 0)], [(1, 1, 1)]]))
        self.assertFalse(self.judged([[(1, 1, 0)], [(1, 1, 1), (1, 2)]]))
        self.assertFalse(self.judged([[(1, 1, 1)], [(1, 1, 0)]]))

    def test_however_many_halves(self):
        self.assertTrue(self.judged([self.SOME]))
        self.assertTrue(self.judged([[(0,)], [(1, 1, 0)], [(3,)]]))
        self.assertTrue(self.judged([[(0,), (1, 0), (1, 1, 0), (1, 1, 1), (1, 2)], [(2, 0), (2, 1), (3,)]]))

    def test_within_a_block_anything_may_come_before_anything(self):
        self.assertTrue(self.judged([[(0,), (3,)]]))

    def test_by_chance(self):
        chance = Chance(106)
        told = {True: 0, False: 0}
        for book, some in somes_by_chance(107, 600, 10):
            before = before_by_hand(book)
            blocks = [[] for _ in range(chance.dice.randint(1, 3))]
            for place in some:
                if chance.dice.random() < 0.7:
                    chance.dice.choice(blocks).append(place)
            if chance.dice.random() < 0.8:
                blocks = [block for block in blocks if block]
            right = are_blocks_by_hand(before, some, blocks)
            told[right] += 1
            self.assertIs(are_blocks(book, some, blocks), right)
        self.assertTrue(told[True] > 50 and told[False] > 50, told)


class TestNothingIsChanged(unittest.TestCase):
    BOOK, SOME, RIGHT = TestAreBlocks.BOOK, TestAreBlocks.SOME, TestAreBlocks.RIGHT

    def test_what_is_handed_in(self):
        for blocks in (self.RIGHT, self.RIGHT[::-1], [], [[]], [self.SOME], [self.SOME[::-1]], [[(9,), (8,)]]):
            some, handed = list(self.SOME), copy.deepcopy(blocks)
            are_blocks(self.BOOK, some, handed)
            two_hands(self.BOOK, some)
            self.assertEqual((some, handed), (self.SOME, blocks))

    def test_what_is_told_is_the_askers_own(self):
        for some in ([], [(0,)], [(1, 0), (1, 2)], list(self.SOME)):
            kept = list(some)
            told = two_hands(self.BOOK, some)
            again = copy.deepcopy(told)
            for lists in told:
                for one in lists:
                    one.append(None)
                lists.append(None)
            self.assertEqual(some, kept)
            self.assertEqual(two_hands(self.BOOK, some), again)


if __name__ == "__main__":
    unittest.main()
