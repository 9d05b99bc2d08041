"""Points 11 and 12: points, ties and roads, and which deeds come before which, are apart or side by side."""

import copy
import unittest

from helping import (
    are_apart_by_hand, before_by_hand, books_by_chance, chain, deeds_by_hand, many_roads, orders_by_weaves,
    side_by_side, terms_by_hand, ties_by_hand)
from sidework.books import need_book
from sidework.roads import are_apart, are_aside, is_before, is_road, road, ties

SET = ("set", 0, 1)
ROW = ("row",)


def enter(*place):
    return ("in", place)


def leave(*place):
    return ("out", place)


class TestTies(unittest.TestCase):
    def check(self, body, tied):
        """The ties of all points of the book, those left out having none."""
        book = (2, body)
        need_book(book)
        for place in terms_by_hand(book):
            for point in (enter(*place), leave(*place)):
                with self.subTest(body=body, point=point):
                    self.assertEqual(ties(book, point), tied.get(point, []))

    def test_set_add_and_copy(self):
        for body in (SET, ("add", 0, 1), ("copy", 1, 0)):
            self.check(body, {enter(): [leave()]})

    def test_look(self):
        self.check(("look", 1, SET, ROW), {
            enter(): [enter(0), enter(1)], enter(0): [leave(0)], enter(1): [leave(1)],
            leave(0): [leave()], leave(1): [leave()]})

    def test_rows_of_no_part_one_and_more(self):
        self.check(ROW, {enter(): [leave()]})
        self.check(("row", SET), {enter(): [enter(0)], enter(0): [leave(0)], leave(0): [leave()]})
        for many in range(2, 7):
            tied = {enter(): [enter(0)], leave(many - 1): [leave()]}
            for at in range(many):
                tied[enter(at)] = [leave(at)]
            for at in range(many - 1):
                tied[leave(at)] = [enter(at + 1)]
            self.check(("row", *[SET] * many), tied)

    def test_boths(self):
        for many in range(2, 5):
            tied = {enter(): [enter(at) for at in range(many)]}
            for at in range(many):
                tied[enter(at)] = [leave(at)]
                tied[leave(at)] = [leave()]
            self.check(("both", *[SET] * many), tied)

    def test_lend(self):
        self.check(("lend", 3, SET), {enter(): [enter(0), leave()], enter(0): [leave(0)]})

    def test_wait(self):
        self.check(("row", ("lend", 3, SET), ("wait", 3)), {
            enter(): [enter(0)], enter(0): [enter(0, 0), leave(0)], enter(0, 0): [leave(0, 0)],
            leave(0, 0): [leave(1)], leave(0): [enter(1)], enter(1): [leave(1)], leave(1): [leave()]})

    def test_waits_of_several_for_one(self):
        body = ("row", ("lend", 3, ("row", SET, ROW)), ("both", ("wait", 3), ("row", ("wait", 3))),
                ("lend", 4, ("wait", 3)), ("wait", 3), ("wait", 4))
        book = (2, body)
        need_book(book)
        self.assertEqual(ties(book, leave(0, 0)), [leave(1, 0), leave(1, 1, 0), leave(2, 0), leave(3)])
        self.assertEqual(ties(book, leave(0, 0, 1)), [leave(0, 0)])
        self.assertEqual(ties(book, leave(0)), [enter(1)])
        self.assertEqual(ties(book, leave(2, 0)), [leave(4)])
        self.assertEqual(ties(book, leave(2)), [enter(3)])
        self.assertEqual(ties(book, leave(3)), [enter(4)])
        self.assertEqual(ties(book, leave(4)), [leave()])

    def test_what_is_lent_by_what_is_lent(self):
        body = ("row", ("lend", 1, ("lend", 2, SET)), ("wait", 1))
        book = (2, body)
        self.assertEqual(ties(book, enter(0, 0)), [enter(0, 0, 0), leave(0, 0)])
        self.assertEqual(ties(book, leave(0, 0)), [leave(1)])
        self.assertEqual(ties(book, leave(0, 0, 0)), [])

    def test_terms_within_terms(self):
        body = ("look", 0, ("both", SET, ("row", SET, SET)), ("row", ("look", 1, ROW, SET), SET))
        book = (2, body)
        for point, tied in (
                (enter(), [enter(0), enter(1)]), (enter(0), [enter(0, 0), enter(0, 1)]), (leave(0, 0), [leave(0)]),
                (leave(0, 1, 0), [enter(0, 1, 1)]), (leave(0, 1, 1), [leave(0, 1)]), (leave(0, 1), [leave(0)]),
                (leave(0), [leave()]), (enter(1), [enter(1, 0)]), (enter(1, 0), [enter(1, 0, 0), enter(1, 0, 1)]),
                (leave(1, 0, 0), [leave(1, 0)]), (leave(1, 0), [enter(1, 1)]), (leave(1, 1), [leave(1)]),
                (leave(), [])):
            self.assertEqual(ties(book, point), tied)

    def test_by_chance_as_by_the_words_of_the_document(self):
        for seed, count, size in ((21, 150, 12), (22, 20, 60)):
            for book, cells in books_by_chance(seed, count, size):
                for point, tied in ties_by_hand(book).items():
                    self.assertEqual(ties(book, point), sorted(tied))

    def test_a_new_list_each_time(self):
        book = (2, ("row", ("lend", 1, SET), ("both", ("wait", 1), SET), ROW))
        for point, tied in ties_by_hand(book).items():
            first = ties(book, point)
            self.assertIsInstance(first, list)
            first.append(None)
            first.reverse()
            self.assertEqual(ties(book, point), sorted(tied))


class TestIsRoad(unittest.TestCase):
    BOOK = (2, ("row", ("lend", 3, ("row", SET, ROW)), ("look", 0, ("both", SET, SET), ROW), ("wait", 3), SET))
    LONG = [enter(), enter(0), leave(0), enter(1), enter(1, 0), enter(1, 0, 1), leave(1, 0, 1), leave(1, 0), leave(1),
            enter(2), leave(2), enter(3), leave(3), leave()]
    LENT = [enter(0), enter(0, 0), enter(0, 0, 0), leave(0, 0, 0), enter(0, 0, 1), leave(0, 0, 1), leave(0, 0),
            leave(2), enter(3)]

    def yes(self, *points):
        self.assertIs(is_road(self.BOOK, list(points)), True, points)

    def no(self, *points):
        self.assertIs(is_road(self.BOOK, list(points)), False, points)

    def test_no_point(self):
        self.no()

    def test_one_point(self):
        for place in terms_by_hand(self.BOOK):
            self.yes(enter(*place))
            self.yes(leave(*place))

    def test_roads(self):
        self.yes(*self.LONG)
        self.yes(*self.LENT)
        for points in (self.LONG, self.LENT):
            for at in range(len(points)):
                for end in range(at + 1, len(points) + 1):
                    self.yes(*points[at:end])

    def test_a_point_left_out(self):
        for points in (self.LONG, self.LENT):
            for at in range(1, len(points) - 1):
                self.no(*points[:at], *points[at + 1:])

    def test_a_point_put_in(self):
        for points in (self.LONG, self.LENT):
            for at in range(len(points) + 1):
                for place in terms_by_hand(self.BOOK):
                    for point in (enter(*place), leave(*place)):
                        longer = [*points[:at], point, *points[at:]]
                        tied = ties_by_hand(self.BOOK)
                        right = all(end in tied[one] for one, end in zip(longer, longer[1:]))
                        self.assertIs(is_road(self.BOOK, longer), right)
                        self.assertFalse(right and 0 < at < len(points))

    def test_a_point_told_twice(self):
        for points in (self.LONG, self.LENT):
            for at in range(len(points)):
                self.no(*points[:at], points[at], *points[at:])
        self.no(enter(), enter())
        self.no(*self.LONG, *self.LONG)

    def test_turned_about(self):
        for points in (self.LONG, self.LENT):
            self.no(*reversed(points))
            for at in range(len(points) - 1):
                self.no(points[at + 1], points[at])
                self.no(*points[:at], points[at + 1], points[at], *points[at + 2:])

    def test_points_of_no_term(self):
        for place in ((4,), (-1,), (0, 1), (0, 0, 2), (1, 2), (1, -1), (3, 0), (10 ** 60,), (0,) * 30, (-1,) * 30):
            for point in (enter(*place), leave(*place)):
                self.no(point)
                self.no(*self.LONG, point)
                self.no(point, *self.LONG)
                self.no(*self.LONG[:5], point, *self.LONG[5:])
        self.no(enter(-2), leave(-2))
        self.no(enter(4), leave(4))
        self.no(enter(0, 0, 0, 0), leave(0, 0, 0, 0))

    def test_strange_words(self):
        for word in ("", "In", "IN", "on", "in ", "outs", "set", "row", "inout"):
            self.no((word, ()))
            self.no(*self.LONG, (word, ()))
            self.no((word, ()), *self.LONG)
            for at, (way, place) in enumerate(self.LONG):
                self.no(*self.LONG[:at], (word, place), *self.LONG[at + 1:])

    def test_lent_leads_to_its_wait_and_not_to_the_out_of_the_lend(self):
        self.yes(leave(0, 0), leave(2))
        self.no(leave(0, 0), leave(0))
        self.no(leave(0, 0), enter(2))
        self.no(leave(0), leave(2))

    def test_by_chance(self):
        for book, cells in books_by_chance(23, 40, 9):
            tied = ties_by_hand(book)
            for point in tied:
                for other in tied:
                    self.assertIs(is_road(book, [point, other]), other in tied[point])
                    for third in tied[other]:
                        self.assertIs(is_road(book, [point, other, third]), other in tied[point])


class BeforeCase(unittest.TestCase):
    def check(self, book, before):
        """That is_before, are_apart and are_aside tell what these pairs do, over all pairs of deeds."""
        deeds = deeds_by_hand(book)
        for p in deeds:
            for q in deeds:
                apart = are_apart_by_hand(book, p, q)
                aside = p != q and not apart and (p, q) not in before and (q, p) not in before
                told = (is_before(book, p, q), are_apart(book, p, q), are_aside(book, p, q))
                for truth, right in zip(told, ((p, q) in before, apart, aside)):
                    if truth is not right:
                        self.fail(f"{told!r} of {p!r} and {q!r} in {book!r}")

    def check_roads(self, book, before):
        deeds = deeds_by_hand(book)
        for p in deeds:
            for q in deeds:
                points = road(book, p, q)
                if p != q and (p, q) not in before:
                    self.assertIsNone(points)
                else:
                    self.assertIsInstance(points, list)
                    self.assertEqual((points[0], points[-1]), (("in", p), ("in", q)))
                    self.assertTrue(is_road(book, points))


class TestBefore(BeforeCase):
    def told(self, body, p, q):
        book = (2, body)
        need_book(book)
        return (is_before(book, p, q), is_before(book, q, p), are_apart(book, p, q), are_apart(book, q, p),
                are_aside(book, p, q), are_aside(book, q, p))

    BEFORE = (True, False, False, False, False, False)
    APART = (False, False, True, True, False, False)
    ASIDE = (False, False, False, False, True, True)

    def test_rows_and_boths(self):
        self.assertEqual(self.told(("row", SET, ROW, SET), (0,), (2,)), self.BEFORE)
        self.assertEqual(self.told(("both", SET, SET), (0,), (1,)), self.ASIDE)
        self.assertEqual(self.told(("row", ("both", SET, SET), SET), (0, 1), (1,)), self.BEFORE)
        self.assertEqual(self.told(("row", SET, ("both", ROW, ("row", SET))), (0,), (1, 1, 0)), self.BEFORE)

    def test_a_look_and_its_parts(self):
        body = ("look", 0, SET, ("row", SET, ("look", 1, SET, SET)))
        self.assertEqual(self.told(body, (), (0,)), self.BEFORE)
        self.assertEqual(self.told(body, (), (1, 1, 0)), self.BEFORE)
        self.assertEqual(self.told(body, (1, 0), (1, 1)), self.BEFORE)
        self.assertEqual(self.told(body, (0,), (1, 0)), self.APART)
        self.assertEqual(self.told(body, (0,), (1, 1, 1)), self.APART)
        self.assertEqual(self.told(body, (1, 1, 0), (1, 1, 1)), self.APART)

    def test_parts_of_unlike_looks_are_not_apart(self):
        look = ("look", 0, SET, SET)
        self.assertEqual(self.told(("row", look, look), (0, 0), (1, 1)), self.BEFORE)
        self.assertEqual(self.told(("both", look, look), (0, 0), (1, 1)), self.ASIDE)
        self.assertEqual(self.told(("both", look, look), (0,), (1, 1)), self.ASIDE)

    def test_both_within_one_part_of_a_look(self):
        body = ("look", 0, ("both", SET, SET), ("row", SET, SET))
        self.assertEqual(self.told(body, (0, 0), (0, 1)), self.ASIDE)
        self.assertEqual(self.told(body, (1, 0), (1, 1)), self.BEFORE)
        self.assertEqual(self.told(body, (0, 1), (1, 1)), self.APART)

    def test_lends_and_waits(self):
        body = ("row", SET, ("lend", 1, ("row", SET, SET)), SET, ("wait", 1), SET)
        self.assertEqual(self.told(body, (0,), (1, 0, 0)), self.BEFORE)
        self.assertEqual(self.told(body, (1, 0, 0), (2,)), self.ASIDE)
        self.assertEqual(self.told(body, (1, 0, 1), (2,)), self.ASIDE)
        self.assertEqual(self.told(body, (1, 0, 0), (1, 0, 1)), self.BEFORE)
        self.assertEqual(self.told(body, (1, 0, 0), (4,)), self.BEFORE)
        self.assertEqual(self.told(body, (1, 0, 1), (4,)), self.BEFORE)
        self.assertEqual(self.told(("row", ("lend", 1, SET), SET), (0, 0), (1,)), self.ASIDE)

    def test_a_wait_for_what_lends_on(self):
        body = ("row", ("lend", 1, ("row", SET, ("lend", 2, SET))), ("wait", 1), SET)
        self.assertEqual(self.told(body, (0, 0, 0), (2,)), self.BEFORE)
        self.assertEqual(self.told(body, (0, 0, 1, 0), (2,)), self.ASIDE)

    def test_a_wait_within_what_is_lent(self):
        body = ("row", ("lend", 1, SET), ("lend", 2, ("row", SET, ("wait", 1), SET)), SET, ("wait", 2), SET)
        self.assertEqual(self.told(body, (0, 0), (1, 0, 0)), self.ASIDE)
        self.assertEqual(self.told(body, (0, 0), (1, 0, 2)), self.BEFORE)
        self.assertEqual(self.told(body, (0, 0), (2,)), self.ASIDE)
        self.assertEqual(self.told(body, (0, 0), (4,)), self.BEFORE)

    def test_a_lend_within_a_look(self):
        body = ("row", ("look", 0, ("row", ("lend", 1, SET), SET, ("wait", 1)), ("lend", 2, SET)), SET)
        self.assertEqual(self.told(body, (0, 0, 0, 0), (0, 0, 1)), self.ASIDE)
        self.assertEqual(self.told(body, (0, 0, 0, 0), (1,)), self.BEFORE)
        self.assertEqual(self.told(body, (0, 1, 0), (1,)), self.ASIDE)
        self.assertEqual(self.told(body, (0, 0, 0, 0), (0, 1, 0)), self.APART)

    def test_one_deed_and_itself(self):
        for book, cells in books_by_chance(24, 50, 30):
            for p in deeds_by_hand(book):
                self.assertIs(is_before(book, p, p), False)
                self.assertIs(are_apart(book, p, p), False)
                self.assertIs(are_aside(book, p, p), False)
                self.assertEqual(road(book, p, p), [("in", p)])

    def test_by_chance_beside_roads_walked_point_by_point(self):
        for seed, count, size in ((25, 120, 12), (26, 5, 60)):
            for book, cells in books_by_chance(seed, count, size):
                before = before_by_hand(book)
                self.check(book, before)
                self.check_roads(book, before)

    def test_by_chance_beside_all_weaves(self):
        several = 0
        for book, cells in books_by_chance(27, 250, 9):
            orders = orders_by_weaves(book)
            several += len([pair for pair in orders if pair[::-1] in orders])
            self.check(book, {(p, q) for p, q in orders if (q, p) not in orders})
        self.assertGreater(several, 300)

    def test_lends_beside_all_weaves(self):
        look = ("look", 0, SET, ("lend", 4, SET))
        for body in (
                ("row", ("lend", 1, ("both", SET, look)), ("lend", 2, ("row", ("wait", 1), SET)), SET, ("wait", 2),
                 SET),
                ("row", ("lend", 1, SET), ("both", ("row", SET, ("wait", 1), SET), ("row", SET, ("lend", 2, SET)))),
                ("row", ("lend", 1, ("row", SET, ("lend", 2, SET), SET)), ("look", 0, SET, ROW), ("wait", 1), SET),
                ("both", ("row", ("lend", 1, look), ("wait", 1), SET), ("row", ("lend", 2, SET), SET))):
            book = (1, body)
            need_book(book)
            orders = orders_by_weaves(book)
            self.check(book, {(p, q) for p, q in orders if (q, p) not in orders})


class TestRoad(BeforeCase):
    def test_a_road_told(self):
        book = (1, ("row", SET, ("row", SET)))
        self.assertEqual(road(book, (0,), (1, 0)), [enter(0), leave(0), enter(1), enter(1, 0)])

    def test_none(self):
        book = (1, ("row", ("both", SET, SET), ("look", 0, SET, SET)))
        for p, q in (((0, 0), (0, 1)), ((1,), (0, 0)), ((1, 0), (1, 1)), ((1, 1), (1, 0)), ((1, 0), (1,))):
            self.assertIsNone(road(book, p, q))

    def test_roads_without_number(self):
        book = many_roads()
        need_book(book)
        before = before_by_hand(book)
        self.assertIn(((0,), (5, 2)), before)
        self.check(book, before)
        self.check_roads(book, before)

    def test_great_books(self):
        for body in (("row", ("row", SET, chain(10)), chain(11)), side_by_side([SET] * 45)):
            book = (1, body)
            need_book(book)
            self.check(book, before_by_hand(book))


class TestNothingIsChanged(unittest.TestCase):
    BOOK = TestIsRoad.BOOK

    def test_lists_handed_in(self):
        for points in ([], TestIsRoad.LONG, TestIsRoad.LENT, [leave(), enter()], [enter(9)], [("", ())]):
            handed = copy.deepcopy(points)
            is_road(self.BOOK, handed)
            self.assertEqual(handed, points)

    def test_told_lists_are_the_askers_own(self):
        first = road(self.BOOK, (0, 0, 0), (3,))
        kept = list(first)
        first.clear()
        self.assertEqual(road(self.BOOK, (0, 0, 0), (3,)), kept)
        self.assertTrue(is_road(self.BOOK, kept))
        self.assertTrue(is_before(self.BOOK, (0, 0, 0), (3,)))


if __name__ == "__main__":
    unittest.main()
