"""Files: texts of stories with names, and the items that a desk makes of them."""

from slideinto.errors import BadText
from slideinto.story import story_in
from slideinto.texts import check_words, lines_of, words_of
from slideinto.worlds import played


class Part:
    """The lines of one story of a text; ahead tells how many lines of the text stand ahead of them."""

    def __init__(self, rows, ahead):
        self.rows = rows
        self.ahead = ahead


class Item:
    """A story of a desk: its lines, and the World behind its deeds, of which it is only asked."""

    def __init__(self, rows, world):
        self.rows = rows
        self.world = world


def item_from(part):
    """The item of a part; the errors of its story and of its deeds."""
    body, target, deeds = story_in(part.rows, part.ahead)
    return Item(part.rows, played(body, target, deeds))


def parts_in(text):
    """A dict of the parts of a file by their names; BadText for the first wrong line world."""
    parts = {}
    part = None
    for number, line in enumerate(lines_of(text), start=1):
        words = words_of(line)
        if begins_part(line):
            if len(words) > 1 and words[1] in parts:
                raise BadText(number, 2)
            check_words(words, ("world", "NAME"), number)
            part = Part([], number)
            parts[words[1]] = part
        elif part is None:
            raise BadText(number, 1)
        else:
            part.rows.append(line)
    return parts


def begins_part(line):
    """Whether a line is one that begins with the word world."""
    return words_of(line)[0] == "world"


def items_with(items, text):
    """A dict of the items behind those of a file, which take the places of those with their names."""
    parts = parts_in(text)
    names = list(items) + [name for name in parts if name not in items]
    return {name: item_from(parts[name]) if name in parts else items[name] for name in names}


def item_text(item):
    """The lines of an item as a text."""
    return "".join([f"{row}\n" for row in item.rows])


def file_text(items):
    """The file of some items."""
    return "".join([f"world {name}\n{item_text(items[name])}" for name in items])
