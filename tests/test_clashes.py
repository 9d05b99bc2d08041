"""Point 17: the pairs of deeds that clash."""

import unittest

from helping import clashes_by_hand, deeds_by_hand, many_roads, share_by_hand, side_by_side, somes_by_chance
from sidework.books import need_book
from sidework.clashes import clashes

ROW = ("row",)


class TestClashes(unittest.TestCase):
    def check(self, body, some, pairs):
        book = (3, body)
        need_book(book)
        self.assertEqual(clashes(book, some), pairs)

    def aside(self, one, other, clash):
        """That two deeds side by side clash or not, whichever comes first; in a row they never do."""
        some, pairs = [(0,), (1,)], [((0,), (1,))] if clash else []
        self.check(("both", one, other), some, pairs)
        self.check(("both", other, one), some, pairs)
        self.check(("row", one, other), some, [])
        self.check(("row", ("lend", 0, one), other), [(0, 0), (1,)], [((0, 0), (1,))] if clash else [])

    def test_both_read_only(self):
        self.aside(("look", 0, ROW, ROW), ("look", 0, ROW, ROW), False)
        self.aside(("copy", 1, 0), ("copy", 2, 0), False)
        self.aside(("copy", 1, 0), ("look", 0, ROW, ROW), False)
        self.aside(("add", 1, 0), ("add", 2, 0), False)
        self.aside(("add", 1, 0), ("copy", 2, 0), False)

    def test_one_writes_what_the_other_one_reads(self):
        self.aside(("set", 0, 1), ("copy", 1, 0), True)
        self.aside(("set", 0, 1), ("add", 1, 0), True)
        self.aside(("copy", 0, 2), ("add", 1, 0), True)
        self.aside(("add", 0, 2), ("copy", 1, 0), True)
        self.aside(("copy", 0, 1), ("copy", 1, 2), True)
        self.aside(("copy", 0, 1), ("copy", 1, 0), True)

    def test_both_write(self):
        self.aside(("set", 0, 1), ("set", 0, 1), True)
        self.aside(("set", 0, 1), ("copy", 0, 1), True)
        self.aside(("set", 0, 1), ("add", 0, 1), True)
        self.aside(("add", 0, 1), ("add", 0, 1), True)
        self.aside(("copy", 0, 1), ("copy", 0, 1), True)

    def test_a_look_beside_a_set(self):
        self.aside(("look", 0, ROW, ROW), ("set", 0, 1), True)
        self.aside(("look", 1, ROW, ROW), ("set", 0, 1), False)
        self.aside(("look", 1, ROW, ROW), ("copy", 0, 1), False)
        self.aside(("look", 1, ROW, ROW), ("add", 1, 2), True)

    def test_unlike_cells(self):
        self.aside(("set", 0, 1), ("set", 1, 1), False)
        self.aside(("set", 0, 1), ("add", 1, 2), False)
        self.aside(("add", 0, 0), ("copy", 1, 2), False)

    def test_a_number_is_no_cell(self):
        self.aside(("set", 0, 1), ("copy", 2, 1), False)
        self.aside(("set", 0, 1), ("set", 1, 0), False)
        self.aside(("set", 2, 0), ("look", 0, ROW, ROW), False)

    def test_all_pairs_of_deeds(self):
        cells = range(3)
        deeds = [("set", x, v) for x in cells for v in (0, 1, 2)]
        deeds += [(word, x, y) for word in ("add", "copy") for x in cells for y in cells]
        deeds += [("look", x, ROW, ROW) for x in cells]
        for one in deeds:
            for other in deeds:
                self.aside(one, other, share_by_hand(one, other))

    def test_one_deed_touching_a_cell_twice(self):
        self.check(("add", 0, 0), [()], [])
        self.check(("row", ("copy", 0, 0)), [(0,)], [])

    def test_before_one_another(self):
        body = ("row", ("lend", 1, ("set", 0, 1)), ("add", 0, 1), ("wait", 1), ("set", 0, 3))
        self.check(body, [(0, 0), (1,), (3,)], [((0, 0), (1,))])
        self.check(("look", 0, ("set", 0, 1), ROW), [(), (0,)], [])

    def test_only_those_of_some(self):
        body = ("both", ("set", 0, 1), ("look", 1, ("set", 0, 2), ("set", 0, 3)), ("set", 1, 4))
        self.check(body, [(0,), (1,), (1, 0), (2,)], [((0,), (1, 0)), ((1,), (2,))])
        self.check(body, [(0,), (1,), (1, 1), (2,)], [((0,), (1, 1)), ((1,), (2,))])
        self.check(body, [(1,), (1, 1), (2,)], [((1,), (2,))])
        self.check(body, [(0,), (1, 1)], [((0,), (1, 1))])
        self.check(body, [(0,), (2,)], [])
        self.check(body, [(0,)], [])
        self.check(body, [], [])

    def test_what_is_apart_does_not_clash(self):
        body = ("look", 1, ("set", 0, 2), ("set", 0, 3))
        self.assertEqual(clashes((3, body), [(), (0,), (1,)]), [])

    def test_pairs_rising(self):
        body = ("both", ("set", 0, 1), ("row", ("copy", 1, 0), ("set", 0, 2)), ("lend", 4, ("add", 0, 1)))
        a, b, c, d = (0,), (1, 0), (1, 1), (2, 0)
        self.check(body, [a, b, c, d], [(a, b), (a, c), (a, d), (b, d), (c, d)])

    def test_by_chance(self):
        many = 0
        for seed, count, size in ((61, 300, 15), (62, 30, 60)):
            for book, some in somes_by_chance(seed, count, size):
                pairs = clashes(book, some)
                self.assertEqual(pairs, clashes_by_hand(book, some))
                self.assertEqual(pairs, sorted(pairs))
                many += len(pairs)
        self.assertGreater(many, 500)

    def test_great_books(self):
        sets, looks = side_by_side([("set", 0, 1)] * 45), side_by_side([("look", 5, ROW, ROW)] * 15)
        for book in (many_roads(), (1, sets), (6, looks)):
            need_book(book)
            some = deeds_by_hand(book)
            self.assertEqual(clashes(book, some), clashes_by_hand(book, some))

    def test_kinds_of_values(self):
        told = clashes((1, ("both", ("set", 0, 1), ("set", 0, 2))), [(0,), (1,)])
        self.assertIsInstance(told, list)
        self.assertIsInstance(told[0], tuple)


class TestNothingIsChanged(unittest.TestCase):
    BOOK = (1, ("both", ("set", 0, 1), ("set", 0, 2), ("set", 0, 3)))

    def test_some_handed_in(self):
        for kept in ([], [(1,)], [(0,), (1,), (2,)]):
            some = list(kept)
            clashes(self.BOOK, some)
            self.assertEqual(some, kept)

    def test_a_told_list_is_the_askers_own(self):
        some = [(0,), (1,), (2,)]
        first = clashes(self.BOOK, some)
        kept = list(first)
        first.reverse()
        first.pop()
        self.assertEqual(clashes(self.BOOK, some), kept)


if __name__ == "__main__":
    unittest.main()
