"""Desk: rows of words, asked of a book that stands there, and answered with texts."""

from sidework.books import NUMBERS, deed_places
from sidework.breadth import rows_and_side
from sidework.errors import NoDeed, NoRow, NoStand
from sidework.hands import longest
from sidework.mended import mended
from sidework.pairs import two_hands
from sidework.roads import is_before
from sidework.runs import places_told, run, weave
from sidework.sure import sure
from sidework.texts import FIGURES, read_book, show_book, show_place

MOST_FIGURES = 9
BEGIN_OF_BOOK = "book "


def read_number(word):
    if not 1 <= len(word) <= MOST_FIGURES or any(sign not in FIGURES for sign in word):
        raise NoRow("a number has one to nine figures")
    if word[0] == "0" and len(word) > 1:
        raise NoRow("a number has no 0 ahead")
    return int(word)


def read_numbers(words):
    return [read_number(word) for word in words]


def read_place(word):
    return () if word == "." else tuple(read_numbers(word.split(".")))


def read_nothing(words):
    if len(words) > 0:
        raise NoRow("nothing stands behind this word")
    return []


def read_some_numbers(words):
    if len(words) == 0:
        raise NoRow("a number or more stand behind this word")
    return read_numbers(words)


def read_two_places(words):
    if len(words) != 2:
        raise NoRow("two places stand behind this word")
    return [read_place(word) for word in words]


def show_numbers(numbers):
    return " ".join([str(number) for number in numbers])


def answer_run(book, cells, given):
    return show_numbers(run(book, cells)[1])


def answer_weave(book, cells, given):
    return show_numbers(weave(book, cells, given)[1])


def answer_sure(book, cells, given):
    told = sure(book, cells)
    if told[0] == "sure":
        return "sure"
    return f"clash {show_place(told[1])} {show_place(told[2])}"


def answer_before(book, cells, given):
    p, q = given
    deeds = deed_places(book)
    if p not in deeds or q not in deeds:
        raise NoDeed("one of the places is that of no deed")
    return "yes" if is_before(book, p, q) else "no"


def places_run(book, cells):
    """The places of the deeds that one hand does, rising."""
    return places_told(run(book, cells)[0])


def answer_side(book, cells, given):
    return str(len(rows_and_side(book, places_run(book, cells))[1]))


def answer_two(book, cells, given):
    return str(len(two_hands(book, places_run(book, cells))[0]))


def answer_longest(book, cells, given):
    return str(len(longest(book, places_run(book, cells))))


def answer_mended(book, cells, given):
    return show_book(mended(book))


# From the first word of a row to what reads the words behind it.
READERS = {
    "cells": read_some_numbers,
    "run": read_nothing,
    "weave": read_numbers,
    "sure": read_nothing,
    "before": read_two_places,
    "side": read_nothing,
    "two": read_nothing,
    "longest": read_nothing,
    "mended": read_nothing,
}

# From the first word of a row to what answers it, where this changes nothing.
ANSWERS = {
    "run": answer_run,
    "weave": answer_weave,
    "sure": answer_sure,
    "before": answer_before,
    "side": answer_side,
    "two": answer_two,
    "longest": answer_longest,
    "mended": answer_mended,
}


class Desk:
    """A desk at which at most one book stands, with what its cells hold."""

    def __init__(self):
        self.book = None
        self.held = ()

    def say(self, row):
        """The answer to a row."""
        if row.startswith(BEGIN_OF_BOOK):
            return self.take_book(row[len(BEGIN_OF_BOOK):])
        words = row.split(" ")
        if words[0] not in READERS:
            raise NoRow("no row begins with this word")
        read = READERS[words[0]]
        given = read(words[1:])
        if self.book is None:
            raise NoStand("no book stands here")
        if words[0] == "cells":
            return self.take_cells(given)
        answer = ANSWERS[words[0]]
        return answer(self.book, self.held, given)

    def take_book(self, text):
        book = read_book(text)
        self.book = book
        self.held = (0,) * book[0]
        return "ok"

    def take_cells(self, numbers):
        if len(numbers) != len(self.held) or any(number >= NUMBERS for number in numbers):
            raise NoDeed("these are no numbers for the cells")
        self.held = tuple(numbers)
        return "ok"
