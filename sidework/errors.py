"""The errors that the package raises, all of them right under WorkError."""


class WorkError(ValueError):
    """What the other errors have in common."""


class NoBook(WorkError):
    """The thing is no book; fault is the word that says why."""

    def __init__(self, fault):
        super().__init__(f"no book: {fault}")
        self.fault = fault


class NoStep(WorkError):
    """There is no open deed at a place of a list; number is where in the list the place stands."""

    def __init__(self, number):
        super().__init__(f"no open deed at the place numbered {number}")
        self.number = number


class HasLend(WorkError):
    """The body lends, so its deeds have no labels."""


class NoRows(WorkError):
    """The lists are no rows of the deeds."""


class NoDeed(WorkError):
    """A place is that of no deed, or numbers do not fit the cells."""


class NoText(WorkError):
    """The text writes nothing that is made as a book."""


class NoRow(WorkError):
    """The desk does not know such a row."""


class NoStand(WorkError):
    """No book stands at the desk."""
