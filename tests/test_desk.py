"""Point 25: a desk that is told rows and answers with texts."""

import itertools
import time
import unittest

from helping import Chance, Slow, before_by_hand, books_by_chance, deeds_by_hand, many_roads, places_done
from sidework.books import why_no_book
from sidework.breadth import rows_and_side
from sidework.desk import Desk
from sidework.errors import NoBook, NoDeed, NoRow, NoStand, NoText, WorkError
from sidework.hands import longest
from sidework.mended import mended
from sidework.pairs import two_hands
from sidework.runs import run
from sidework.sure import sure
from sidework.texts import show_book, show_place

TEXT = "3 (row (set 0 1) (both (add 1 0) (row (copy 1 2) (set 2 7))) (look 2 (set 0 5) (row)))"
BODY = ("row", ("set", 0, 1), ("both", ("add", 1, 0), ("row", ("copy", 1, 2), ("set", 2, 7))),
        ("look", 2, ("set", 0, 5), ("row",)))
ALONE = "1 (set 0 4)"
GOOD_ROWS = ("cells 1 2 3", "run", "weave", "weave 1", "weave 1 0 5", "sure", "before 0 1.0", "side", "two", "longest",
             "mended")


def numbers(cells):
    return " ".join(str(number) for number in cells)


class DeskCase(unittest.TestCase):
    def standing(self, text=TEXT):
        desk = Desk()
        self.assertEqual(desk.say("book " + text), "ok")
        return desk

    def stand_of(self, desk):
        """What can be seen of a desk, or None where no book stands."""
        try:
            return [desk.say(row) for row in ("run", "weave 1 1 1 1", "sure", "side", "two", "longest", "mended")]
        except NoStand:
            return None

    def refused(self, desk, row, error):
        """That the row is refused so, twice, and changes nothing."""
        kept = self.stand_of(desk)
        for _ in range(2):
            with self.assertRaises(WorkError, msg=repr(row)) as caught:
                desk.say(row)
            self.assertIs(type(caught.exception), error, repr(row))
            self.assertEqual(self.stand_of(desk), kept)
        return caught.exception

    def says(self, desk, row, answer):
        for _ in range(2):
            told = desk.say(row)
            self.assertIsInstance(told, str)
            self.assertEqual(told, answer)


class TestRows(DeskCase):
    def test_book(self):
        desk = Desk()
        self.says(desk, "book " + TEXT, "ok")
        self.says(desk, "mended", TEXT.replace("both", "row"))
        self.says(desk, "book " + ALONE, "ok")
        self.says(desk, "mended", ALONE)

    def test_a_book_holds_noughts(self):
        desk = self.standing("3 (row)")
        self.says(desk, "run", "0 0 0")
        self.says(desk, "cells 1 2 3", "ok")
        self.says(desk, "run", "1 2 3")
        self.says(desk, "book 3 (row)", "ok")
        self.says(desk, "run", "0 0 0")
        self.says(desk, "book 6 (row)", "ok")
        self.says(desk, "run", "0 0 0 0 0 0")
        self.says(desk, "book 1 (row)", "ok")
        self.says(desk, "run", "0")

    def test_cells_stay_till_others_are_told(self):
        desk = self.standing("2 (add 0 1)")
        self.says(desk, "cells 4 9", "ok")
        self.says(desk, "run", "3 9")
        self.says(desk, "run", "3 9")
        self.says(desk, "weave", "3 9")
        self.says(desk, "sure", "sure")
        self.says(desk, "mended", "2 (add 0 1)")
        self.says(desk, "run", "3 9")
        self.says(desk, "cells 0 9", "ok")
        self.says(desk, "run", "9 9")
        self.says(desk, "cells 0 0", "ok")
        self.says(desk, "run", "0 0")

    def test_run_and_weave(self):
        desk = self.standing("2 (both (set 0 7) (add 1 0))")
        self.says(desk, "cells 1 2", "ok")
        self.says(desk, "run", "7 9")
        self.says(desk, "weave", "7 9")
        self.says(desk, "weave 0", "7 9")
        self.says(desk, "weave 1", "7 3")
        self.says(desk, "weave 3", "7 3")
        self.says(desk, "weave 999999999 0 0 0 0", "7 3")
        self.says(desk, "weave 100000000", "7 9")

    def test_sure(self):
        desk = self.standing("2 (both (set 1 3) (look 0 (set 1 4) (row)))")
        self.says(desk, "sure", "sure")
        self.says(desk, "cells 1 0", "ok")
        self.says(desk, "sure", "clash 0 1.0")
        self.says(self.standing("1 (row)"), "sure", "sure")
        self.says(self.standing("2 (row (lend 0 (row (set 0 1) (set 1 1))) (add 1 0))"), "sure", "clash 0.0.0 1")

    def test_before(self):
        desk, before = self.standing(), before_by_hand((3, BODY))
        for p, q in itertools.product(deeds_by_hand((3, BODY)), repeat=2):
            self.says(desk, f"before {show_place(p)} {show_place(q)}", "yes" if (p, q) in before else "no")
        self.says(desk, "before 0 1.0", "yes")
        self.says(desk, "before 1.0 0", "no")
        self.says(desk, "before 1.0 1.1.0", "no")
        self.says(desk, "before 0 0", "no")
        self.says(self.standing(ALONE), "before . .", "no")
        self.says(self.standing("1 (look 0 (set 0 1) (set 0 2))"), "before . 1", "yes")
        self.says(self.standing("1 (look 0 (set 0 1) (set 0 2))"), "before 0 1", "no")

    def test_before_whatever_the_run_did(self):
        desk = self.standing("1 (look 0 (row (set 0 1) (set 0 2)) (row))")
        self.says(desk, "before 0.0 0.1", "yes")
        self.says(desk, "cells 3", "ok")
        self.says(desk, "before 0.0 0.1", "yes")

    def test_side_two_and_longest(self):
        desk = self.standing()
        for row, answer in (("side", "2"), ("two", "5"), ("longest", "5")):
            self.says(desk, row, answer)
        desk = self.standing("1 (both (set 0 1) (set 0 2) (row (set 0 3) (set 0 4) (set 0 5)))")
        for row, answer in (("side", "3"), ("two", "3"), ("longest", "3")):
            self.says(desk, row, answer)
        for text in ("1 (row)", "1 (both (row) (lend 1 (row)))"):
            for row in ("side", "two", "longest"):
                self.says(self.standing(text), row, "0")

    def test_they_are_of_what_the_run_does_from_these_cells(self):
        desk = self.standing("1 (look 0 (both (row) (set 0 1) (set 0 2)) (row (set 0 3) (set 0 4) (set 0 5)))")
        for cells, answers in (("0", ("1", "4", "4")), ("7", ("2", "2", "2"))):
            self.says(desk, "cells " + cells, "ok")
            for row, answer in zip(("side", "two", "longest"), answers):
                self.says(desk, row, answer)

    def test_mended(self):
        desk = self.standing("1 (row (lend 3 (set 0 1)) (both (set 0 2) (row)))")
        self.says(desk, "mended", "1 (row (lend 3 (set 0 1)) (wait 3) (both (set 0 2) (row)))")
        # The book that stands is not the mended one.
        self.says(desk, "sure", "clash 0.0 1.0")
        self.says(self.standing("1 (row)"), "mended", "1 (row)")

    def test_mended_of_more_parts_than_a_book_may_have(self):
        parts = [f"(lend {k} (set 0 {k}))" for k in range(6)]
        desk = self.standing("1 (row " + " ".join(parts) + ")")
        self.says(desk, "mended", "1 (row " + " ".join(f"{part} (wait {k})" for k, part in enumerate(parts)) + ")")

    def test_by_chance_beside_the_package(self):
        chance = Chance(131)
        for book, cells in books_by_chance(132, 60, 30):
            if why_no_book(book) is not None:
                continue
            desk = self.standing(show_book(book))
            for held in ((0,) * book[0], cells):
                if held == cells:
                    self.says(desk, "cells " + numbers(held), "ok")
                some = places_done(run(book, held)[0])
                self.says(desk, "run", numbers(Slow(book, held).weave([])[1]))
                picks = [chance.dice.randrange(10 ** 9) for _ in range(8)]
                self.says(desk, "weave " + numbers(picks), numbers(Slow(book, held).weave(picks)[1]))
                told = sure(book, held)
                places = [show_place(place) for place in told[1:3]] if told[0] == "clash" else []
                self.says(desk, "sure", " ".join([told[0], *places]))
                self.says(desk, "side", str(len(rows_and_side(book, some)[1])))
                self.says(desk, "two", str(len(two_hands(book, some)[0])))
                self.says(desk, "longest", str(len(longest(book, some))))
            self.says(desk, "mended", show_book(mended(book)))
            deeds, before = deeds_by_hand(book), before_by_hand(book)
            for _ in range(10 if deeds else 0):
                p, q = chance.dice.choice(deeds), chance.dice.choice(deeds)
                self.says(desk, f"before {show_place(p)} {show_place(q)}", "yes" if (p, q) in before else "no")

    def test_great_books_in_seconds(self):
        begun = time.monotonic()
        desk = self.standing(show_book(many_roads()))
        for row in ("cells 1 2 3 4", "run", "sure", "side", "two", "longest", "mended", "before 0 5.2"):
            desk.say(row)
        self.assertLess(time.monotonic() - begun, 10)


class TestNoRow(DeskCase):
    BAD_NUMBERS = ("", "00", "01", "007", "-1", "+1", "1.0", "x", "1234567890", "1_0", "0x1", "one", "\n", "1\n", "\t1",
                   "True", "(1)", "1,", "00000000")

    def bad(self, row):
        """Refused with NoRow, whether a book stands or not."""
        for desk in (Desk(), self.standing()):
            self.refused(desk, row, NoRow)

    def test_words_that_are_none(self):
        for row in ("", " ", "  ", "\n", "ok", "Run", "RUN", "runs", "ru", "book", "Book " + ALONE, "cell 1",
                    "cells", "before", "help", "clash", "yes", "wait 1", "set 0 1", "keeper", "step", "plan 2",
                    "eager 2", "labels", "0", "1 2 3", ".", "()", "run;sure", "run\nsure", "bookk " + ALONE,
                    "book\n" + ALONE,
                    "book\t" + ALONE, TEXT, "~"):
            self.bad(row)

    def test_blanks_too_many(self):
        for row in GOOD_ROWS:
            self.bad(" " + row)
            self.bad(row + " ")
            self.bad(row + "\n")
            self.bad("\n" + row)
            if " " in row:
                self.bad(row.replace(" ", "  ", 1))
                self.bad(row.replace(" ", "\n", 1))
                self.bad(row.replace(" ", "", 1))
        self.bad(" book " + ALONE)

    def test_words_too_many(self):
        for row in ("run", "sure", "side", "two", "longest", "mended"):
            for more in ("0", "1 2", row, ".", "x"):
                self.bad(f"{row} {more}")

    def test_numbers_of_cells(self):
        self.bad("cells ")
        for bad in self.BAD_NUMBERS:
            self.bad(f"cells {bad}")
            self.bad(f"cells 1 {bad} 3")
            self.bad(f"cells 1 2 {bad}")

    def test_picks(self):
        for bad in self.BAD_NUMBERS:
            self.bad(f"weave {bad}")
            self.bad(f"weave 0 {bad}")
            self.bad(f"weave {bad} 0")

    def test_places(self):
        for row in ("before", "before 0", "before 0 1.0 2", "before ", "before 0 ", "before  0", "before . . ."):
            self.bad(row)
        for bad in ("", "..", "0.", ".0", "0..0", "00", "01", "0.01", "0.00", "x", "0.x", "-1", "0,0", "(0)", "()",
                    "1234567890", "0.1234567890", "0 0", "+0", "0\n", "...", "\n"):
            self.bad(f"before {bad} 0")
            self.bad(f"before 0 {bad}")

    def test_no_row_goes_ahead_of_all_else(self):
        self.refused(Desk(), "cells 10 x", NoRow)
        self.refused(self.standing(), "cells 10 x", NoRow)
        self.refused(self.standing(), "before 9.9 01", NoRow)
        self.refused(Desk(), "before 9.9 01", NoRow)


class TestNoStand(DeskCase):
    def test_no_book_stands(self):
        desk = Desk()
        for row in GOOD_ROWS:
            self.refused(desk, row, NoStand)

    def test_no_stand_goes_ahead_of_no_deed(self):
        for row in ("cells 10", "cells 1 2 3 4 5 6 7", "before 9 9", "before . .", "before 999999999 0"):
            self.refused(Desk(), row, NoStand)

    def test_behind_a_book_that_was_refused(self):
        desk = Desk()
        self.refused(desk, "book ", NoText)
        self.refused(desk, "book 1 (wait 0)", NoBook)
        for row in GOOD_ROWS:
            self.refused(desk, row, NoStand)
        self.says(desk, "book " + ALONE, "ok")
        self.says(desk, "run", "4")


class TestNoDeed(DeskCase):
    def test_places_of_no_deed(self):
        desk = self.standing()
        for place in (".", "1", "1.1", "2.1", "3", "0.0", "2.0.0", "2.2", "1.1.2", "999999999", "0.0.0.0.0.0.0.0",
                      ".".join("0" * 30), "1.999999999"):
            self.refused(desk, f"before {place} 0", NoDeed)
            self.refused(desk, f"before 0 {place}", NoDeed)
            self.refused(desk, f"before {place} {place}", NoDeed)
        self.refused(self.standing(ALONE), "before . 0", NoDeed)
        self.refused(self.standing("1 (row)"), "before . .", NoDeed)
        self.refused(self.standing("1 (row (lend 1 (set 0 1)) (wait 1))"), "before 0.0 1", NoDeed)

    def test_other_numbers_of_cells(self):
        desk = self.standing()
        self.says(desk, "cells 7 8 9", "ok")
        for row in ("cells 1", "cells 1 2", "cells 1 2 3 4", "cells 1 2 3 4 5 6 7", "cells " + " ".join("1" * 600)):
            self.refused(desk, row, NoDeed)
        for count in range(1, 7):
            desk = self.standing(f"{count} (row)")
            for many in range(1, 9):
                row = "cells " + " ".join("5" * many)
                if many == count:
                    self.says(desk, row, "ok")
                else:
                    self.refused(desk, row, NoDeed)

    def test_numbers_above_nine(self):
        desk = self.standing()
        self.says(desk, "cells 9 9 9", "ok")
        self.says(desk, "cells 7 8 9", "ok")
        for row in ("cells 10 0 0", "cells 0 10 0", "cells 0 0 10", "cells 999999999 0 0", "cells 11",
                    "cells 0 0 0 10"):
            self.refused(desk, row, NoDeed)


class TestNoTextAndNoBook(DeskCase):
    def test_no_text(self):
        for desk in (Desk(), self.standing()):
            for text in ("", " ", "  ", "1", "(row)", " " + ALONE, ALONE + " ", ALONE + "\n", "1 (row))",
                         "7 (row)", "1 (set 0 10)", "1 (set 1 1)", "1 (both (row))", "book " + ALONE, "run",
                         "x" * 1300, "\n", "1 " + "(row " * 91 + "(row)" + ")" * 91):
                self.refused(desk, "book " + text, NoText)

    def test_no_book(self):
        for desk in (Desk(), self.standing()):
            for text, fault in (("1 (wait 0)", "names"), ("1 (row (lend 2 (row)) (lend 2 (row)))", "names"),
                                ("1 " + "(row " * 13 + "(row)" + ")" * 13, "great"),
                                ("1 " + "(row " * 90 + "(row)" + ")" * 90, "great"),
                                ("1 " + "(row " * 13 + "(wait 0)" + ")" * 13, "names")):
                self.assertEqual(self.refused(desk, "book " + text, NoBook).fault, fault)

    def test_what_stood_stays_with_its_cells(self):
        desk = self.standing("2 (add 0 1)")
        self.says(desk, "cells 3 4", "ok")
        for row, error in (("book ", NoText), ("book 2 (wait 1)", NoBook), ("cells 1", NoDeed), ("cells 1 10", NoDeed),
                           ("cells 1 x", NoRow), ("book", NoRow), ("before . 0", NoDeed)):
            self.refused(desk, row, error)
            self.says(desk, "run", "7 4")
            self.says(desk, "mended", "2 (add 0 1)")


class TestDesks(DeskCase):
    def test_two_desks_do_not_mind_one_another(self):
        one, other = Desk(), Desk()
        self.says(one, "book 2 (add 0 1)", "ok")
        self.refused(other, "run", NoStand)
        self.says(other, "book 1 (set 0 4)", "ok")
        self.says(one, "cells 5 6", "ok")
        self.says(other, "run", "4")
        self.says(one, "run", "1 6")
        self.refused(other, "cells 5 6", NoDeed)
        self.says(other, "cells 2", "ok")
        self.says(other, "book 3 (row)", "ok")
        self.says(one, "run", "1 6")
        self.says(one, "mended", "2 (add 0 1)")
        self.says(other, "run", "0 0 0")

    def test_what_is_asked_changes_nothing(self):
        desk = self.standing()
        self.says(desk, "cells 4 5 6", "ok")
        kept = self.stand_of(desk)
        for row in GOOD_ROWS[1:]:
            desk.say(row)
            self.assertEqual(self.stand_of(desk), kept)


if __name__ == "__main__":
    unittest.main()
