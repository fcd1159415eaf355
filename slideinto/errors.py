"""The errors of the package.

The messages leave the values out: an error may be created with any value, also one that cannot be shown,
such as an integer with more digits than Python writes.
"""


class SlideError(ValueError):
    """The base of all errors of the package."""


class BadText(SlideError):
    """A text is wrong at this word; (0, 0) stands for a value that is no string."""

    def __init__(self, line, column):
        super().__init__("a text is wrong at a word")
        self.line = line
        self.column = column


class BadNumber(SlideError):
    """A number is not of its kind; what tells which number."""

    def __init__(self, what, number):
        super().__init__("a number is not of its kind")
        self.what = what
        self.number = number


class BadName(SlideError):
    """A value is no NAME, or no name of its kind."""

    def __init__(self, name):
        super().__init__("a value is no name of its kind")
        self.name = name


class BadCell(SlideError):
    """A value is no cell."""

    def __init__(self, cell):
        super().__init__("a value is no cell")
        self.cell = cell


class BadBody(SlideError):
    """A value is no body."""

    def __init__(self, cells):
        super().__init__("a value is no body")
        self.cells = cells


class NoName(SlideError):
    """Nothing has this name."""

    def __init__(self, name):
        super().__init__("nothing has this name")
        self.name = name


class TakenName(SlideError):
    """Something else has this name."""

    def __init__(self, name):
        super().__init__("something else has this name")
        self.name = name


class NotThere(SlideError):
    """No square lies in this cell, or not as told."""

    def __init__(self, cell):
        super().__init__("no square lies in this cell")
        self.cell = cell


class NoMove(SlideError):
    """This is no move of the body."""

    def __init__(self, start, end):
        super().__init__("this is no move of the body")
        self.start = start
        self.end = end


class TooMany(SlideError):
    """There are too many of something."""

    def __init__(self, what, many, limit):
        super().__init__("there are too many of something")
        self.what = what
        self.many = many
        self.limit = limit


class NotKept(SlideError):
    """A promise would not be kept; the witness shows it."""

    def __init__(self, promise, witness):
        super().__init__("a promise would not be kept")
        self.promise = promise
        self.witness = witness


class NothingToUndo(SlideError):
    """No edit is there that could be taken back."""

    def __init__(self):
        super().__init__("there is nothing to undo")


class NothingToRedo(SlideError):
    """No edit is there that could be done again."""

    def __init__(self):
        super().__init__("there is nothing to redo")
