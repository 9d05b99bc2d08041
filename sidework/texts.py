"""Texts: books and places written, and books read."""

from sidework.books import OPERANDS, all_places, is_made, need_book, parts_of
from sidework.errors import NoText

FIGURES = ("0", "1", "2", "3", "4", "5", "6", "7", "8", "9")
MOST_AROUND_IN_TEXTS = 90


def show_term(term):
    operands = term[1:1 + len(OPERANDS[term[0]])]
    words = [term[0]] + [str(operand) for operand in operands] + [show_term(part) for part in parts_of(term)]
    return "(" + " ".join(words) + ")"


def show_book(book):
    """The text of a book: its number of cells, a blank and its body."""
    return f"{book[0]} {show_term(book[1])}"


def show_place(place):
    """The text of a place: its numbers parted by points, a point alone for the body."""
    return ".".join([str(number) for number in place]) if place else "."


def thing_written(text):
    """The tuple of what a text writes, whatever its blanks, or None where its brackets do not fit."""
    begun = [[]]
    for word in text.replace("(", " ( ").replace(")", " ) ").split(" "):
        if word == "(":
            begun.append([])
        elif word == ")" and len(begun) == 1:
            return None
        elif word == ")":
            ended = begun.pop()
            begun[-1].append(tuple(ended))
        elif word in FIGURES:
            begun[-1].append(FIGURES.index(word))
        elif word != "":
            begun[-1].append(word)
    return tuple(begun[0]) if len(begun) == 1 else None


def is_too_deep(book):
    return any(len(place) > MOST_AROUND_IN_TEXTS for place in all_places(book))


def read_book(text):
    """The book that a text writes."""
    thing = thing_written(text)
    # What is too deep is not written anew, as each term within another one takes a call of its own.
    if not is_made(thing) or is_too_deep(thing):
        raise NoText("the text writes nothing that is made as a book")
    # Each book has one text only: so no blank is one too many or one too few.
    if show_book(thing) != text:
        raise NoText("the text has blanks in the wrong places")
    need_book(thing)
    return thing
