"""Point 24, and the first sentence of point 25: books and places written, and books read."""

import itertools
import unittest

from helping import Chance, books_by_chance, chain, many_roads, mended_like, terms_in_all
from sidework.books import need_book, why_no_book
from sidework.errors import NoBook, NoText, WorkError
from sidework.mended import mended
from sidework.texts import read_book, show_book, show_place

# Texts written by hand, each with what it writes.
WRITTEN = (
    ("1 (set 0 9)", (1, ("set", 0, 9))),
    ("6 (add 5 0)", (6, ("add", 5, 0))),
    ("2 (copy 1 0)", (2, ("copy", 1, 0))),
    ("1 (row)", (1, ("row",))),
    ("3 (row (set 0 1))", (3, ("row", ("set", 0, 1)))),
    ("3 (row (row) (row))", (3, ("row", ("row",), ("row",)))),
    ("4 (look 3 (set 0 1) (row))", (4, ("look", 3, ("set", 0, 1), ("row",)))),
    ("1 (both (row) (row))", (1, ("both", ("row",), ("row",)))),
    ("1 (both (row) (row) (set 0 0) (row))", (1, ("both", ("row",), ("row",), ("set", 0, 0), ("row",)))),
    ("5 (lend 9 (set 4 0))", (5, ("lend", 9, ("set", 4, 0)))),
    ("2 (row (lend 1 (set 0 7)) (add 1 0) (wait 1))",
     (2, ("row", ("lend", 1, ("set", 0, 7)), ("add", 1, 0), ("wait", 1)))),
    ("2 (row (lend 0 (both (set 0 1) (copy 1 1))) (look 0 (row) (row (add 0 0) (set 1 2))) (wait 0))",
     (2, ("row", ("lend", 0, ("both", ("set", 0, 1), ("copy", 1, 1))),
          ("look", 0, ("row",), ("row", ("add", 0, 0), ("set", 1, 2))), ("wait", 0)))),
)


class Reader:
    """A text read sign by sign, as a second way: each step takes what must stand there, or fails."""

    KINDS = {"set": "xv", "add": "xx", "copy": "xx", "look": "xAA", "lend": "vA", "wait": "v"}
    MANY = {"row": (0, 6), "both": (2, 4)}

    def __init__(self, text):
        self.text = text
        self.at = 0

    def take(self, sign):
        if self.text[self.at:self.at + len(sign)] != sign:
            raise LookupError
        self.at += len(sign)

    def number(self, least, most):
        for number in range(least, most + 1):
            if self.text[self.at:self.at + 1] == str(number):
                self.at += 1
                return number
        raise LookupError

    def term(self):
        self.take("(")
        words = [word for word in (*self.KINDS, *self.MANY) if self.text.startswith(word, self.at)]
        if not words:
            raise LookupError
        made = [words[0]]
        self.take(words[0])
        if words[0] in self.MANY:
            while self.text[self.at:self.at + 1] == " ":
                self.take(" ")
                made.append(self.term())
            least, most = self.MANY[words[0]]
            if not least <= len(made) - 1 <= most:
                raise LookupError
        for kind in self.KINDS.get(words[0], ""):
            self.take(" ")
            made.append(self.term() if kind == "A" else self.number(0, self.cells - 1 if kind == "x" else 9))
        self.take(")")
        return tuple(made)

    def book(self):
        """The book or what is made like one, None where it is nothing such."""
        try:
            self.cells = self.number(1, 6)
            self.take(" ")
            body = self.term()
        except LookupError:
            return None
        return (self.cells, body) if self.at == len(self.text) else None


def rows_around(depth, inmost="(set 0 1)"):
    """A text in which the inmost term is within so many others."""
    return "1 " + "(row " * depth + inmost + ")" * depth


class TextsCase(unittest.TestCase):
    def no_text(self, text):
        with self.assertRaises(NoText, msg=repr(text)) as caught:
            read_book(text)
        self.assertIsInstance(caught.exception, WorkError)

    def no_book(self, text, fault):
        with self.assertRaises(NoBook) as caught:
            read_book(text)
        self.assertEqual(caught.exception.fault, fault)


class TestShowBook(TextsCase):
    def test_texts_written_by_hand(self):
        for text, book in WRITTEN:
            need_book(book)
            self.assertEqual(show_book(book), text)
            self.assertIsInstance(show_book(book), str)

    def test_what_mended_tells_is_written(self):
        book = (1, ("row", *[("lend", k, ("set", 0, k)) for k in range(6)]))
        inner = " ".join(f"(lend {k} (set 0 {k})) (wait {k})" for k in range(6))
        self.assertEqual(show_book(mended(book)), f"1 (row {inner})")
        self.assertIsInstance(show_book(mended_like()), str)


class TestReadBook(TextsCase):
    def test_texts_written_by_hand(self):
        for text, book in WRITTEN:
            told = read_book(text)
            self.assertEqual(told, book)
            self.assertIsInstance(told, tuple)
            self.assertIsInstance(told[0], int)

    def test_each_book_is_read_as_it_was_written(self):
        for seed, count, size in ((121, 300, 20), (122, 40, 50)):
            for book, cells in books_by_chance(seed, count, size):
                if why_no_book(book) is None:
                    self.assertEqual(read_book(show_book(book)), book)
        self.assertEqual(read_book(show_book(many_roads())), many_roads())

    def test_blanks_too_many(self):
        for text, book in WRITTEN:
            for at in range(len(text) + 1):
                self.no_text(text[:at] + " " + text[at:])

    def test_signs_too_few(self):
        # Without any one of its signs each of these is no text of a book, or at least not of the same one.
        for text, book in WRITTEN:
            for at in range(len(text)):
                self.no_text(text[:at] + text[at + 1:])

    def test_brackets_too_many(self):
        for text, book in WRITTEN:
            for at, sign in itertools.product(range(len(text) + 1), "()"):
                self.no_text(text[:at] + sign + text[at:])
            self.no_text(text + " (row)")
            self.no_text(text + "(row)")

    def test_line_ends_and_strange_signs(self):
        for text, book in WRITTEN[:8]:
            for at, sign in itertools.product(range(len(text) + 1), "\n\r\t_.,[]{}+-~xX'\"\\"):
                self.no_text(text[:at] + sign + text[at:])
                if sign != text[at:at + 1]:
                    self.no_text(text[:at] + sign + text[at + 1:])

    def test_no_sign_at_all_and_hardly_any(self):
        for text in ("", " ", "\n", "1", "1 ", "(", ")", "()", "1 ()", "1 (", "1 )", "1 (row", "1 row", "1 row)",
                     "(row)", " (row)", "row", "1(row)", "1 ((row))", "1 (row) ", " 1 (row)", "1  (row)",
                     "1 ( row)", "1 (row )", "(1 (row))", "1 1 (row)", "1 (row) 1", "1 2", "1 (1)", "1 (())", ")(",
                     "1 )row("):
            self.no_text(text)

    def test_numbers_of_two_figures(self):
        for text in ("01 (row)", "11 (row)", "1 (set 00 1)", "1 (set 0 10)", "1 (set 0 01)", "2 (add 01 0)",
                     "2 (copy 0 01)", "1 (look 00 (row) (row))", "1 (lend 10 (row))", "1 (lend 01 (row))",
                     "1 (row (lend 1 (row)) (wait 01))", "1 (row (lend 1 (row)) (wait 11))"):
            self.no_text(text)

    def test_numbers_of_cells(self):
        for count in (0, 7, 8, 9, -1, 10, ""):
            self.no_text(f"{count} (row)")
        for count in range(1, 7):
            self.assertEqual(read_book(f"{count} (row)"), (count, ("row",)))

    def test_cells_that_are_not_there(self):
        for count in range(1, 7):
            for x in range(10):
                for text in (f"(set {x} 9)", f"(add {x} 0)", f"(add 0 {x})", f"(copy {x} 0)", f"(copy 0 {x})",
                             f"(look {x} (row) (row))"):
                    if x < count:
                        self.assertEqual(show_book(read_book(f"{count} {text}")), f"{count} {text}")
                    else:
                        self.no_text(f"{count} {text}")

    def test_too_many_and_too_few_parts(self):
        for many in range(10):
            parts = " (row)" * many
            for text, limits in ((f"(row{parts})", range(7)), (f"(both{parts})", range(2, 5)),
                                 (f"(look 0{parts})", (2,)), (f"(lend 3{parts})", (1,)), (f"(set 0 0{parts})", (0,)),
                                 (f"(add 0 0{parts})", (0,)), (f"(copy 0 0{parts})", (0,))):
                if many in limits:
                    self.assertEqual(show_book(read_book(f"1 {text}")), f"1 {text}")
                else:
                    self.no_text(f"1 {text}")
            if many > 0:
                self.no_text(f"1 (wait 0{parts})")

    def test_too_many_and_too_few_numbers(self):
        for text in ("(set)", "(set 0)", "(set 0 0 0)", "(add 0)", "(add 0 0 0)", "(copy 0)", "(copy 0 0 0)",
                     "(look (row) (row))", "(look 0 0 (row) (row))", "(row 0)", "(both 0 (row) (row))", "(lend (row))",
                     "(lend 0 0 (row))", "(wait)", "(wait 0 0)", "(look (row) 0 (row))", "(lend (row) 0)",
                     "(set 0 (row))",
                     "(row row)"):
            self.no_text(f"1 {text}")

    def test_strange_words(self):
        for word in ("Set", "SET", "sets", "se", "setset", "move", "rows", "0", "row-", "_set", "not", "None", "True"):
            self.no_text(f"1 ({word} 0 0)")
            self.no_text(f"1 ({word})")
        for text in ("1 (set x 0)", "1 (set 0 v)", "1 (set 0 True)", "1 (set 0 -1)", "1 (set 0 +1)", "1 (set 0 1_0)",
                     "1 (set 0 0x1)", "1 (set 0 1.0)", "one (row)", "1 ('row')", '1 ("row",)', "(1, ('row',))",
                     "1 (0 set 0)"):
            self.no_text(text)

    def test_names(self):
        self.no_book("1 (wait 0)", "names")
        self.no_book("1 (row (wait 0) (lend 0 (row)))", "names")
        self.no_book("1 (row (lend 0 (row)) (lend 0 (row)))", "names")
        self.no_book("1 (both (lend 0 (row)) (wait 0))", "names")

    def test_great(self):
        for count in (59, 60, 61, 75):
            text = show_book((2, terms_in_all(count)))
            if count <= 60:
                self.assertEqual(read_book(text), (2, terms_in_all(count)))
            else:
                self.no_book(text, "great")
        self.no_book("2 (row (wait 4) " + show_book((2, terms_in_all(70)))[2:] + ")", "names")

    def test_terms_within_others(self):
        self.assertEqual(read_book(rows_around(12)), (1, chain(12)))
        for depth in (13, 14, 50, 89, 90):
            self.no_book(rows_around(depth), "great")
            self.no_book(rows_around(depth, "(wait 0)"), "names")
        for depth in (91, 92, 150, 275):
            self.assertLessEqual(len(rows_around(depth, "(row)")), 1400 + 300)
            self.no_text(rows_around(depth))
            self.no_text(rows_around(depth, "(wait 0)"))
            self.no_text(rows_around(depth, "(row)"))
        self.no_book("1 (row " + rows_around(88)[2:] + " " + rows_around(89)[2:] + ")", "great")
        self.no_text("1 (row (row) " + rows_around(90)[2:] + ")")

    def test_brackets_without_end(self):
        for text in ("(" * 1400, ")" * 1400, "(" * 700 + ")" * 700, "1 " + "(" * 699 + ")" * 699, "1 " + "(row " * 279,
                     "() " * 466, "1 " + "(row)" * 279, "1" * 1400, " " * 1400, "\n" * 1400, "(row" * 350):
            self.no_text(text)

    def test_no_text_goes_ahead_of_no_book(self):
        self.no_text("1 (row (wait 0) (set 1 0))")
        self.no_text("1 (row (wait 0)  (row))")
        self.no_text("1 (wait 0) ")
        self.no_text(rows_around(90) + " ")
        self.no_text(rows_around(91, "(wait 0)"))
        self.no_text("0 (wait 0)")

    def test_any_text_by_chance(self):
        dice = Chance(123).dice
        told = {"made": 0, "names": 0, "none": 0}
        for _ in range(12000):
            text, book = dice.choice(WRITTEN)
            figures = [at for at, sign in enumerate(text) if sign.isdigit()]
            if dice.random() < 0.4:
                at = dice.choice(figures)
                text = text[:at] + dice.choice("0123456789") + text[at + 1:]
            for _ in range(dice.randint(0, 3)):
                at = dice.randrange(len(text) + 1)
                text = text[:at] + dice.choice(("", " ", "(", ")", "0", "1", "2", "row", "(row)", " (row)")) \
                    + text[at + dice.randint(0, 2):]
            made = Reader(text).book()
            fault = None if made is None else why_no_book(made)
            told["none" if made is None else fault or "made"] += 1
            if made is None:
                self.no_text(text)
            elif fault is not None:
                self.no_book(text, fault)
            else:
                self.assertEqual(read_book(text), made)
                self.assertEqual(show_book(made), text)
        self.assertTrue(min(told.values()) > 20, told)

    def test_the_second_way_reads_what_is_written_by_hand(self):
        for text, book in WRITTEN:
            self.assertEqual(Reader(text).book(), book)


class TestShowPlace(unittest.TestCase):
    def test_places(self):
        for place, text in (((), "."), ((0,), "0"), ((5,), "5"), ((0, 0), "0.0"), ((1, 0, 3), "1.0.3"), ((12,), "12"),
                            ((0, 10, 9), "0.10.9"), ((0,) * 30, ".".join("0" * 30))):
            self.assertEqual(show_place(place), text)
            self.assertIsInstance(show_place(place), str)


if __name__ == "__main__":
    unittest.main()
