"""Promises: texts of words about the items of a desk, and whether they are kept."""

from slideinto.bodies import free_squares, shape_of
from slideinto.errors import BadText, NoName
from slideinto.joining import plan_between
from slideinto.texts import check_words, checked_text, words_of

# The kinds of the words of a promise, by the second one.
PROMISES = {
    "there": ("NAME", "there"),
    "within": ("NAME", "within", "N"),
    "moved": ("NAME", "moved", "N"),
    "loose": ("NAME", "loose", "N"),
    "covers": ("NAME", "covers", "Z", "Z"),
    "like": ("NAME", "like", "NAME"),
    "becomes": ("NAME", "becomes", "NAME", "N"),
}


def promise_words(promise, items):
    """The words of a promise; BadText for a wrong one, NoName for the first name of an item that is none."""
    words = words_of(checked_text(promise))
    if len(words) > 1 and words[1] in PROMISES:
        check_words(words, PROMISES[words[1]], 1)
    else:
        check_words(words[:1], ("NAME",), 1)
        raise BadText(1, 2)
    for name in names_in(words):
        if name not in items:
            raise NoName(name)
    return words


def names_in(words):
    """The list of the names of items among the words of a promise."""
    return [words[index] for index in name_places(words)]


def name_places(words):
    """The list of the indexes of the names of items among the words of a promise."""
    return [index for index, kind in enumerate(PROMISES[words[1]]) if kind == "NAME"]


def renamed(promise, name, new):
    """A promise with another name for an item."""
    words = words_of(promise)
    places = name_places(words)
    return " ".join([new if word == name and index in places else word for index, word in enumerate(words)])


def verdict(words, items):
    """The pair (True, None) if a promise is kept, otherwise (False, witness)."""
    word = words[1]
    world = items[words[0]].world
    if word == "there":
        return judged(world.is_there(), None)
    if word == "covers":
        return judged((int(words[2]), int(words[3])) in world.body, None)
    if word == "like":
        return judged(shape_of(world.body) == shape_of(items[words[2]].world.body), None)
    if word == "becomes":
        many = moves_between(world.body, items[words[2]].world.body)
        return judged(many is not None and many <= int(words[3]), many)
    if word == "loose":
        many = len(free_squares(world.body))
        return judged(many >= int(words[2]), many)
    many = len(world.plan() if word == "within" else world.history())
    return judged(many <= int(words[2]), many)


def judged(is_kept, witness):
    """The verdict on a promise that is kept or not, with this witness if it is not."""
    return (True, None) if is_kept else (False, witness)


def moves_between(body, other):
    """The number of the moves of the plan between two bodies, None if there is none."""
    if len(body) != len(other) or (len(body) == 1 and body != other):
        return None
    return len(plan_between(body, other))


def broken_in(promises, items):
    """The list of the pairs (promise, witness) of the promises that are not kept."""
    pairs = []
    for promise in promises:
        is_kept, witness = verdict(words_of(promise), items)
        if not is_kept:
            pairs.append((promise, witness))
    return pairs
