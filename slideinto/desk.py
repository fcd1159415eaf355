"""The desk: stories with names, promises about them, and edits that can be taken back."""

from slideinto.cells import is_whole
from slideinto.errors import BadName, BadNumber, BadText, NoName, NotKept, NothingToRedo, NothingToUndo, TakenName
from slideinto.files import Part, begins_part, file_text, item_from, item_text, items_with
from slideinto.story import Story, world_of
from slideinto.texts import checked_text, is_name, lines_of, words_of
from slideinto.vows import broken_in, names_in, promise_words, renamed, verdict


class State:
    """What a desk holds at a time: a dict of its items by their names, and a tuple of its promises."""

    def __init__(self, table, vows):
        self.table = table
        self.vows = vows


class Desk:
    """Stories with names, in an order, and promises about them."""

    def __init__(self, text=""):
        # A State is never changed, so it serves as what an edit goes back to. Those to which undo and redo
        # lead stand in two lists; each attempt and each trial has two lists of its own.
        self._now = State(items_with({}, checked_text(text)), ())
        self._past = []
        self._ahead = []
        self._depth = 0

    def lines(self):
        """The file of all items."""
        return file_text(self._now.table)

    def item_names(self):
        """The tuple of the names of the items."""
        return tuple(self._now.table)

    def get_story(self, name):
        """The Story of an item."""
        return Story(item_text(item_of(self._now, name)))

    def get_world(self, name):
        """A World behind the deeds of an item, made anew."""
        return world_of(self.get_story(name))

    def put(self, text):
        """Puts the items of a file in the places of those with their names, or behind the last one."""
        self._edit(State(items_with(self._now.table, checked_text(text)), self._now.vows))

    def drop(self, name):
        """Takes an item away, and releases the promises that name it."""
        item_of(self._now, name)
        table = self._now.table
        vows = [promise for promise in self._now.vows if name not in names_in(words_of(promise))]
        self._edit(State({other: table[other] for other in table if other != name}, tuple(vows)))

    def rename(self, name, new):
        """Gives an item another name, in its place and in the promises."""
        if not is_name(new):
            raise BadName(new)
        item_of(self._now, name)
        table = self._now.table
        if new in table:
            raise TakenName(new)
        vows = [renamed(promise, name, new) for promise in self._now.vows]
        self._edit(State({new if other == name else other: table[other] for other in table}, tuple(vows)))

    def edit(self, name, number, text):
        """Puts the lines of a text in the place of a line of an item, or behind its last line."""
        rows = lines_for(self._now, name, text)
        many = len(self._now.table[name].rows)
        if not is_whole(number) or not 1 <= number <= many + 1:
            raise BadNumber("line", number)
        self._edit(state_with(self._now, name, number, rows))

    def add(self, name, text):
        """Puts the lines of a text behind the last line of an item."""
        rows = lines_for(self._now, name, text)
        self._edit(state_with(self._now, name, len(self._now.table[name].rows) + 1, rows))

    def keep(self, promise):
        """Makes a promise."""
        promise_words(promise, self._now.table)
        vows = self._now.vows
        if promise not in vows:
            vows = (*vows, str(promise))
        self._edit(State(self._now.table, vows))

    def release(self, promise):
        """Takes a promise back."""
        vows = self._now.vows
        if checked_text(promise) not in vows:
            raise NoName(promise)
        self._edit(State(self._now.table, tuple([other for other in vows if other != promise])))

    def promises(self):
        """The tuple of the promises, in the order in which they were made."""
        return self._now.vows

    def holds(self, promise):
        """The pair (True, None) if a promise would be kept, otherwise (False, witness)."""
        return verdict(promise_words(promise, self._now.table), self._now.table)

    def broken(self):
        """The tuple of the pairs (promise, witness) of the promises that are not kept."""
        return tuple(broken_in(self._now.vows, self._now.table))

    def undo(self):
        """Takes the last edit back."""
        if not self._past:
            raise NothingToUndo()
        self._ahead.append(self._now)
        self._now = self._past.pop()

    def redo(self):
        """Does the edit again that was taken back last."""
        if not self._ahead:
            raise NothingToRedo()
        self._past.append(self._now)
        self._now = self._ahead.pop()

    def attempt(self, action):
        """Calls an action with the desk; all its edits are one edit, or none if an error is raised."""
        before, past, ahead, depth = self._now, self._past, self._ahead, self._depth
        is_done = False
        self._begin()
        try:
            answer = action(self)
            if depth == 0:
                check_promises(self._now)
            is_done = True
        finally:
            self._past = past
            self._ahead = ahead
            self._depth = depth
            if not is_done:
                self._now = before
        self._past.append(before)
        self._ahead = []
        return answer

    def trial(self, action):
        """Calls an action with the desk, and gives back all that it has done."""
        before, past, ahead, depth = self._now, self._past, self._ahead, self._depth
        self._begin()
        try:
            return action(self)
        finally:
            self._now = before
            self._past = past
            self._ahead = ahead
            self._depth = depth

    def _begin(self):
        """From here on undo and redo know later edits alone, and no edit looks at promises."""
        self._past = []
        self._ahead = []
        self._depth += 1

    def _edit(self, state):
        """One edit leads to a state, in which outside of attempts and trials all promises must be kept."""
        if self._depth == 0:
            check_promises(state)
        self._past.append(self._now)
        self._ahead = []
        self._now = state


def item_of(state, name):
    """The item with a name; BadName for no string, NoName if there is none."""
    if not isinstance(name, str):
        raise BadName(name)
    if name not in state.table:
        raise NoName(name)
    return state.table[name]


def lines_for(state, name, text):
    """The lines of a text that is to come into an item; the errors of both."""
    if not isinstance(name, str):
        raise BadName(name)
    rows = lines_of(checked_text(text))
    item_of(state, name)
    return rows


def state_with(state, name, number, rows):
    """The state with some lines in the place of the line with this number of an item."""
    for index, row in enumerate(rows):
        if begins_part(row):
            raise BadText(number + index, 1)
    old = state.table[name].rows
    item = item_from(Part(old[:number - 1] + rows + old[number:], 0))
    table = {other: item if other == name else state.table[other] for other in state.table}
    return State(table, state.vows)


def check_promises(state):
    """NotKept for the first promise that is not kept."""
    broken = broken_in(state.vows, state.table)
    if broken:
        promise, witness = broken[0]
        raise NotKept(promise, witness)
