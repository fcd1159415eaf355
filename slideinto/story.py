"""Stories: texts of a body, a target and what is done; and pictures of bodies."""

from slideinto.bodies import frame_of, lot_of_body
from slideinto.cells import body_in, lot_hangs, lot_of
from slideinto.errors import BadText, SlideError
from slideinto.pictures import EMPTY, picture_in, signs_in
from slideinto.texts import check_words, checked_text, lines_of, words_of
from slideinto.worlds import World, do_deed, played

SQUARE = "#"

# The kinds of the words of a line with a deed, by the first one.
LINES = {"move": ("move", "Z", "Z", "Z", "Z"), "go": ("go", "N"), "aim": ("aim", "Z", "Z")}


class Story:
    """A text of a body, a target and deeds."""

    def __init__(self, text):
        self.text = checked_text(text)
        body, target, deeds = story_in(lines_of(self.text), 0)
        self.body = body
        self.target = target
        self.deeds = deeds


class Reader:
    """Goes through the lines of a story; ahead tells how many lines of the whole text stand ahead of them."""

    def __init__(self, rows, ahead):
        self.rows = rows
        self.ahead = ahead
        self.many = 0

    def is_at_end(self):
        """Whether all lines were read."""
        return self.many == len(self.rows)

    def line_number(self):
        """The number of the next line in the whole text."""
        return self.ahead + self.many + 1

    def words(self):
        """The words of the next line, which must be there."""
        if self.is_at_end():
            raise BadText(self.line_number(), 1)
        return words_of(self.rows[self.many])

    def read_body(self, word):
        """The body of a line with this word and the cell of its corner, and of the picture behind it."""
        number = self.line_number()
        words = self.words()
        check_words(words, (word, "Z", "Z"), number)
        self.many += 1
        rows = self.read_picture()
        lot = lot_of(signs_in(rows, (int(words[1]), int(words[2]))))
        if not lot_hangs(lot):
            raise BadText(number, 1)
        return body_in(lot)

    def read_picture(self):
        """The rows of the picture that begins at the next line."""
        start = self.line_number()
        rows = []
        while not self.is_at_end() and is_picture_row(self.rows[self.many]):
            rows.append(self.rows[self.many])
            self.many += 1
        if not rows:
            raise BadText(start, 1)
        for index, row in enumerate(rows):
            if len(row) != len(rows[0]):
                raise BadText(start + index, 1)
        return rows

    def read_deed(self):
        """The deed of the next line, and of the picture behind it if it is an aim."""
        words = self.words()
        if words[0] not in LINES:
            raise BadText(self.line_number(), 1)
        check_words(words, LINES[words[0]], self.line_number())
        if words[0] == "aim":
            return ("aim", self.read_body("aim"))
        self.many += 1
        numbers = [int(word) for word in words[1:]]
        if words[0] == "go":
            return ("go", numbers[0])
        return ("move", (numbers[0], numbers[1]), (numbers[2], numbers[3]))


def picture_of(body):
    """The picture of a body, the highest row first."""
    lot = lot_of_body(body)
    return picture_in(frame_of(body_in(lot)), {square: SQUARE for square in lot})


def drawn(body, target):
    """The picture of a body and its target in the least frame around both."""
    here = lot_of_body(body)
    there = lot_of_body(target)
    signs = {square: SQUARE if square in there else "-" for square in here}
    for square in there:
        if square not in here:
            signs[square] = "+"
    return picture_in(frame_of(list(signs)), signs)


def world_of(story):
    """A World of the body and the target of a story behind all its deeds."""
    return played(story.body, story.target, story.deeds)


def told(story):
    """The tuple of what each deed of a story did, up to the first one that raises an error."""
    world = World(story.body, story.target)
    words = []
    for deed in story.deeds:
        words.append(outcome(world, deed))
        if words[-1] == "error":
            break
    return tuple(words)


def outcome(world, deed):
    """Does a deed on a World; the word for what it did."""
    try:
        many = do_deed(world, deed)
    except SlideError:
        return "error"
    if deed[0] == "go":
        return f"went {many}"
    return "moved" if deed[0] == "move" else "aimed"


def story_in(rows, ahead):
    """The body, the target and the deeds of the lines of a story, with so many lines of a text ahead of them."""
    reader = Reader(rows, ahead)
    body = reader.read_body("body")
    target = reader.read_body("target")
    deeds = []
    while not reader.is_at_end():
        deeds.append(reader.read_deed())
    # Raises what a World raises for both bodies.
    World(body, target)
    return (body, target, tuple(deeds))


def is_picture_row(row):
    """Whether a line is one of a picture."""
    return len(row) > 0 and all(sign in (SQUARE, EMPTY) for sign in row)
