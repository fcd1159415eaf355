"""Points [72] to [74]: undo and redo, attempts, trials, and full desks."""

from tests.helper import carved, drawn, grown, row, spiral
from tests.test_desk import FILE, ONE, THREE, TWO, DeskTest, at_desk, item, state, whole

from slideinto.bodies import free_squares
from slideinto.desk import Desk
from slideinto.errors import BadNumber, BadText, NoName, NotKept, NothingToRedo, NothingToUndo, SlideError, TakenName
from slideinto.story import Story, picture_of, world_of


class OtherError(Exception):
    """An error that is none of the package."""


class UndoTest(DeskTest):
    def test_over_all_edits(self):
        desk = self.filled()
        told, ways = whole(desk)
        self.assertEqual(ways, [11, 0])
        states = [state(desk)]
        for _ in range(11):
            self.assertIsNone(desk.undo())
            states.append(state(desk))
        self.assertEqual(states[-1], (FILE, (), ("one", "two", "three"), ()))
        self.assert_error((NothingToUndo,), desk.undo)
        for expected in states[-2::-1]:
            self.assertIsNone(desk.redo())
            self.assertEqual(state(desk), expected)
        self.assert_error((NothingToRedo,), desk.redo)

    def filled(self):
        desk = at_desk()
        desk.put("")
        desk.put(item("four", TWO))
        desk.keep("two like four")
        desk.keep("two like four")
        desk.edit("one", 7, "go 1")
        desk.add("one", "")
        desk.rename("four", "five")
        desk.keep("one moved 3")
        desk.attempt(lambda same: None)
        desk.release("one moved 3")
        desk.drop("five")
        return desk

    def test_an_edit_ends_what_can_be_done_again(self):
        edits = (
            lambda desk: desk.put(""), lambda desk: desk.edit("one", 6, "go 1"), lambda desk: desk.add("one", ""),
            lambda desk: desk.drop("one"), lambda desk: desk.rename("one", "six"), lambda desk: desk.keep("two there"),
            lambda desk: desk.release("one moved 99"), lambda desk: desk.attempt(lambda same: None),
            lambda desk: desk.keep("one moved 99"),
        )
        for edit in edits:
            desk = at_desk()
            desk.keep("one moved 99")
            desk.add("two", "go 1")
            desk.undo()
            edit(desk)
            self.assert_error((NothingToRedo,), desk.redo)
            desk.undo()
            self.assertEqual(state(desk), (FILE, ("one moved 99",), ("one", "two", "three"), ()))
            desk.redo()

    def test_what_raises_an_error_keeps_what_can_be_done_again(self):
        desk = at_desk()
        desk.keep("two there")
        desk.add("one", "go 1")
        desk.add("one", "go 2")
        desk.undo()
        for error, call, values in (
            ((NoName, "x"), desk.drop, ["x"]), ((BadText, 1, 1), desk.put, ["x"]),
            ((BadText, 9, 1), desk.add, ["one", "x"]),
            ((NotKept, "two there", None), desk.add, ["two", "aim 0 0\n####"]), ((NoName, "x"), desk.release, ["x"]),
            ((NotKept, "one there", None), desk.keep, ["one there"]),
            ((BadNumber, "line", 0), desk.edit, ["one", 0, ""]),
        ):
            self.assert_unchanged(error, desk, call, *values)
        self.assertEqual(whole(desk)[1], [2, 1])

    def test_telling_is_no_edit(self):
        desk = at_desk()
        desk.add("one", "go 1")
        desk.undo()
        before = whole(desk)
        for call in (desk.lines, desk.item_names, desk.promises, desk.broken):
            call()
        desk.get_story("one")
        desk.get_world("one")
        desk.holds("one there")
        desk.trial(lambda same: same.drop("one"))
        self.assertEqual(whole(desk), before)
        self.assertEqual(whole(desk)[1], [0, 1])


def raiser(error, *calls):
    """An action that does calls and ends with an error."""
    def action(desk):
        for call in calls:
            call(desk)
        raise error
    return action


class AttemptTest(DeskTest):
    def desk(self):
        desk = at_desk()
        desk.keep("two there")
        desk.keep("one moved 3")
        desk.add("one", "aim 0 0\n####")
        desk.undo()
        return desk

    def test_what_is_called_and_returned(self):
        desk = self.desk()
        for call in (desk.attempt, desk.trial):
            got = []
            answer = object()
            self.assertIs(call(lambda same: (got.append(same), answer)[1]), answer)
            self.assertIs(got[0], desk)
            self.assertIsNone(call(action=lambda same: None))

    def test_one_edit(self):
        desk = self.desk()
        before = state(desk)

        def action(same):
            same.add("one", "go 1")
            same.edit("two", 6, "##\naim 0 0\n####")
            same.edit("two", 7, "aim -3 4\n##\n##\ngo 1\naim -3 4")
            same.edit("two", 12, "##\n##")
            same.edit("one", 8, "")
            same.rename("three", "four")
            return same.broken()

        self.assertEqual(desk.attempt(action), ())
        behind = state(desk)
        self.assertEqual(whole(desk)[1], [3, 0])
        desk.undo()
        self.assertEqual(state(desk), before)
        desk.redo()
        self.assertEqual(state(desk), behind)

    def test_no_edit_raises_not_kept_within(self):
        desk = self.desk()

        def action(same):
            same.add("one", "go 1")
            same.keep("one there")
            same.keep("one within 0")
            self.assertEqual(same.promises(), ("two there", "one moved 3", "one there", "one within 0"))
            many = len(same.get_world("one").plan())
            self.assertEqual(same.broken(), (("one moved 3", 4), ("one there", None), ("one within 0", many)))
            self.assertEqual(same.holds("one moved 3"), (False, 4))
            self.assert_error((NoName, "x"), same.keep, "x there")
            self.assert_error((BadText, 1, 2), same.keep, "one x")
            same.release("one moved 3")
            same.add("one", "go 999")
            self.assertEqual(same.broken(), ())

        desk.attempt(action)
        self.assertEqual(desk.promises(), ("two there", "one there", "one within 0"))
        self.assertEqual(whole(desk)[1], [3, 0])
        other = self.desk()
        before = whole(other)
        other.trial(action)
        self.assertEqual(whole(other), before)

    def test_promises_that_are_not_kept_at_its_end(self):
        desk = self.desk()

        def action(same):
            same.keep("one loose 99")
            same.add("one", "go 1")
            same.drop("three")

        self.assert_unchanged((NotKept, "one moved 3", 4), desk, desk.attempt, action)
        many = len(free_squares(desk.get_world("one").body))
        self.assert_unchanged((NotKept, "one loose 99", many), desk, desk.attempt,
            lambda same: same.keep("one loose 99"))

    def test_errors_of_any_kind(self):
        desk = self.desk()
        deeds = (lambda same: same.drop("one"), lambda same: same.undo(), lambda same: same.put(item("x", TWO)))
        for error in (OtherError(), KeyError("x"), KeyboardInterrupt(), GeneratorExit(), SystemExit(), NoName("x")):
            for call in (desk.attempt, desk.trial):
                before = whole(desk)
                with self.assertRaises(type(error)) as caught:
                    call(raiser(error, *deeds))
                self.assertIs(caught.exception, error)
                self.assertEqual(whole(desk), before)
                self.assert_error((NotKept, "one moved 3", 4), desk.add, "one", "go 1")
        for call in (desk.attempt, desk.trial):
            self.assert_unchanged((BadText, 1, 1), desk, call, lambda same: same.put("x"))
            with self.assertRaises(TypeError):
                call(None)
        self.assertEqual(whole(desk)[1], [2, 1])

    def test_a_caught_error_goes_no_further(self):
        desk = self.desk()

        def action(same):
            with self.assertRaises(OtherError):
                same.attempt(raiser(OtherError(), lambda inner: inner.drop("two")))
            with self.assertRaises(OtherError):
                same.trial(raiser(OtherError(), lambda inner: inner.drop("two")))
            same.drop("three")

        desk.attempt(action)
        self.assertEqual(desk.item_names(), ("one", "two"))
        desk.undo()
        self.assertEqual(desk.lines(), FILE)

    def test_undo_and_redo_within_know_its_own_edits_alone(self):
        for name in ("attempt", "trial"):
            desk = self.desk()

            def action(same):
                self.assert_error((NothingToUndo,), same.undo)
                self.assert_error((NothingToRedo,), same.redo)
                same.drop("three")
                same.rename("one", "six")
                same.undo()
                self.assertEqual(same.item_names(), ("one", "two"))
                same.undo()
                self.assert_error((NothingToUndo,), same.undo)
                self.assertEqual(same.lines(), FILE)
                same.redo()
                same.redo()
                self.assert_error((NothingToRedo,), same.redo)
                self.assertEqual(same.item_names(), ("six", "two"))
                same.undo()

            getattr(desk, name)(action)
            names = ("one", "two") if name == "attempt" else ("one", "two", "three")
            self.assertEqual(desk.item_names(), names)
            self.assertEqual(whole(desk)[1], [3, 0] if name == "attempt" else [2, 1])

    def test_an_attempt_within_an_attempt_is_one_edit(self):
        desk = self.desk()

        def inner(same):
            self.assert_error((NothingToUndo,), same.undo)
            same.add("one", "go 1")
            same.add("one", "go 1")

        def action(same):
            same.drop("three")
            same.attempt(inner)
            self.assertEqual(same.broken(), (("one moved 3", 5),))
            same.undo()
            self.assertEqual(same.broken(), ())
            self.assertEqual(same.item_names(), ("one", "two"))
            same.redo()
            self.assertEqual(same.broken(), (("one moved 3", 5),))
            same.undo()
            same.attempt(lambda other: None)
            self.assert_error((NothingToRedo,), same.redo)
            same.undo()
            same.undo()
            self.assert_error((NothingToUndo,), same.undo)
            same.redo()

        desk.attempt(action)
        self.assertEqual(desk.item_names(), ("one", "two"))
        self.assertEqual(whole(desk)[1], [3, 0])

    def test_a_trial_within(self):
        desk = self.desk()

        def action(same):
            same.drop("three")
            before = whole(same)
            same.trial(lambda other: (other.drop("one"), other.attempt(lambda last: last.drop("two"))))
            self.assertEqual(whole(same), before)
            return same.attempt(lambda other: other.trial(lambda last: (last.drop("one"), last.item_names())[1]))

        self.assertEqual(desk.attempt(action), ("two",))
        self.assertEqual(desk.item_names(), ("one", "two"))

    def test_an_attempt_within_a_trial_looks_at_no_promises(self):
        desk = self.desk()
        before = whole(desk)

        def action(same):
            same.attempt(lambda other: other.add("one", "go 1"))
            return same.broken()

        self.assertEqual(desk.trial(action), (("one moved 3", 4),))
        self.assertEqual(whole(desk), before)
        self.assert_unchanged((NotKept, "one moved 3", 4), desk, desk.attempt, action)

    def test_an_attempt_without_an_edit(self):
        desk = self.desk()
        before = state(desk)
        self.assertEqual(whole(desk)[1], [2, 1])
        desk.attempt(lambda same: None)
        self.assertEqual(whole(desk)[1], [3, 0])
        self.assertEqual(state(desk), before)


class PlainDesk:
    """What the document says of edits, with all that a desk holds copied ahead of each of them."""

    def __init__(self):
        self.now, self.past, self.ahead, self.depth = ((), ()), [], [], 0

    def broken(self, now):
        worlds = {name: world_of(Story(text)) for name, text in now[0]}
        told = []
        for promise in now[1]:
            name, word, *others = promise.split(" ")
            many = {"moved": len(worlds[name].history()), "within": len(worlds[name].plan())}.get(word)
            right = many <= int(others[0]) if many is not None else self.is_kept(worlds, name, word, others)
            if not right:
                told.append((promise, many))
        return tuple(told)

    def is_kept(self, worlds, name, word, others):
        if word == "there":
            return worlds[name].is_there()
        return len(worlds[name].body) == len(worlds[others[0]].body) and Desk(
            item("a", text_for(worlds[name])) + item("b", text_for(worlds[others[0]]))).holds("a like b")[0]

    def edit(self, now):
        if self.depth == 0:
            for promise, witness in self.broken(now):
                raise NotKept(promise, witness)
        self.past, self.ahead, self.now = self.past + [self.now], [], now

    def do(self, deed):
        table, vows = dict(self.now[0]), self.now[1]
        word, *values = deed
        if word == "put":
            table.update(dict([values]))
            self.edit((tuple(table.items()), vows))
        elif word == "add":
            text = table.get(values[0])
            if text is None:
                raise NoName(values[0])
            world_of(Story(text + values[1]))
            self.edit((tuple({**table, values[0]: text + values[1]}.items()), vows))
        elif word == "drop":
            if values[0] not in table:
                raise NoName(values[0])
            left = tuple(promise for promise in vows if values[0] not in promise.split(" "))
            self.edit((tuple(pair for pair in table.items() if pair[0] != values[0]), left))
        elif word == "rename":
            self.rename(table, vows, *values)
        elif word == "keep":
            for name in values[0].split(" "):
                if len(name) == 1 and name.isalpha() and name not in table:
                    raise NoName(name)
            self.edit((self.now[0], vows + (() if values[0] in vows else (values[0],))))
        elif word == "release":
            if values[0] not in vows:
                raise NoName(values[0])
            self.edit((self.now[0], tuple(promise for promise in vows if promise != values[0])))
        else:
            self.go_back(word)

    def rename(self, table, vows, name, new):
        if name not in table:
            raise NoName(name)
        if new in table:
            raise TakenName(new)
        items = tuple((new if other == name else other, text) for other, text in table.items())
        others = [" ".join(new if word == name else word for word in promise.split(" ")) for promise in vows]
        self.edit((items, tuple(others)))

    def go_back(self, word):
        one, two = (self.past, self.ahead) if word == "undo" else (self.ahead, self.past)
        if not one:
            raise NothingToUndo() if word == "undo" else NothingToRedo()
        two.append(self.now)
        self.now = one.pop()

    def attempt(self, action):
        before = (self.now, list(self.past), list(self.ahead), self.depth)
        self.past, self.ahead, self.depth = [], [], self.depth + 1
        try:
            action(self)
            if before[3] == 0:
                for promise, witness in self.broken(self.now):
                    raise NotKept(promise, witness)
        except BaseException:
            self.now, self.past, self.ahead, self.depth = before
            raise
        self.past, self.ahead, self.depth = before[1] + [before[0]], [], before[3]

    def trial(self, action):
        before = (self.now, list(self.past), list(self.ahead), self.depth)
        self.past, self.ahead, self.depth = [], [], self.depth + 1
        try:
            action(self)
        finally:
            self.now, self.past, self.ahead, self.depth = before


def text_for(world):
    picture = "".join(line + "\n" for line in picture_of(world.body))
    return f"body 0 0\n{picture}target 0 0\n{picture}"


NAMES = "abc"
TEXTS = (
    TWO, ONE, THREE, TWO + "go 5\n", "body 0 0\n##\ntarget 3 3\n#\n#\n", "body 9 9\n##\n##\ntarget 0 0\n####\n",
)
ADDED = ("go 1\n", "go 9999\n", "aim 2 2\n####\n", "move 0 0 1 1\n", "go 0\ngo 2\n", "")
VOWS = (
    "there", "moved 0", "moved 3", "within 0", "within 60", "like a", "like b", "like c",
)


def drawn_script(many, number, deep):
    """Deeds that look as if they came by chance, with attempts and trials among them."""
    deeds = []
    for _ in range(many):
        number = drawn(number)
        choice, name, other = (number >> 8) % 16, NAMES[(number >> 12) % 3], (number >> 14) % 30
        if choice < 3:
            deed = ("put", name, TEXTS[other % len(TEXTS)])
        elif choice < 5:
            deed = ("add", name, ADDED[other % len(ADDED)])
        elif choice < 6:
            deed = ("drop", name)
        elif choice < 7:
            deed = ("rename", name, NAMES[other % 3])
        elif choice < 9:
            deed = ("keep", f"{name} {VOWS[other % len(VOWS)]}")
        elif choice < 10:
            deed = ("release", f"{name} {VOWS[other % len(VOWS)]}")
        elif choice < 12:
            deed = ("undo",)
        elif choice < 13:
            deed = ("redo",)
        elif deep > 0:
            word = ("attempt", "attempt", "trial")[other % 3]
            deed = (word, drawn_script(other % 7, number, deep - 1), (number >> 20) % 5 == 0)
        else:
            deed = ("undo",)
        deeds.append(deed)
    return deeds


class ScriptsTest(DeskTest):
    def test_scripts(self):
        self.met = {}
        for seed in range(1, 150):
            desk, plain = Desk(), PlainDesk()
            self.run_script(desk, plain, drawn_script(30, 31 * seed, 3))
            for call in (desk.undo, desk.redo):
                for _ in range(5):
                    self.do(desk, plain, (call.__name__,))
        for error in ("NotKept", "NoName", "TakenName", "NothingToUndo", "NothingToRedo", "OtherError", "NotThere",
            "None"):
            self.assertGreater(self.met.get(error, 0), 20, self.met)

    def run_script(self, desk, plain, script):
        for deed in script:
            self.do(desk, plain, deed)
            self.assertEqual(desk.lines(), "".join(item(name, text) for name, text in plain.now[0]))
            self.assertEqual(desk.promises(), plain.now[1])
            self.assertEqual(desk.broken(), plain.broken(plain.now))

    def do(self, desk, plain, deed):
        errors = []
        for call, one in ((self.do_plain, plain), (self.do_real, desk)):
            try:
                call(one, deed)
                errors.append(None)
            except (SlideError, OtherError) as error:
                errors.append((type(error), vars(error)))
        self.assertEqual(errors[0], errors[1], deed)
        word = "None" if errors[0] is None else errors[0][0].__name__
        self.met[word] = self.met.get(word, 0) + 1

    def do_plain(self, plain, deed):
        if deed[0] in ("attempt", "trial"):
            getattr(plain, deed[0])(lambda same: self.within(self.do_plain, same, *deed[1:]))
        else:
            plain.do(deed)

    def do_real(self, desk, deed):
        if deed[0] in ("attempt", "trial"):
            getattr(desk, deed[0])(lambda same: self.within(self.do_real, same, *deed[1:]))
        elif deed[0] == "put":
            desk.put(item(*deed[1:]))
        else:
            getattr(desk, deed[0])(*deed[1:])

    def within(self, call, same, deeds, is_wrong):
        for deed in deeds:
            try:
                call(same, deed)
            except (SlideError, OtherError):
                pass
        if is_wrong:
            raise OtherError()


class LimitsTest(DeskTest):
    def text(self, body, target):
        lines = ["body 0 0", *picture_of(body), "target 150 150", *picture_of(target)]
        while len(lines) < 58:
            lines += ["go 5"]
        return "\n".join(lines + ["go 999999", ""])

    def test_full_desks(self):
        bodies = [spiral(20), grown(20, 3), carved(6, 6, 20, 4), row(20)]
        bodies += [grown(20, 9), carved(5, 7, 20, 3), row(20), spiral(20)]
        names = [f"item{k}" for k in range(8)]
        desk = Desk("".join(item(names[k], self.text(bodies[k], bodies[k - 1])) for k in range(8)))
        self.assertEqual(desk.item_names(), tuple(names))
        for k in range(8):
            desk.keep(f"item{k} there")
        desk.keep("item0 becomes item5 99999")
        desk.keep("item2 becomes item1 99999")
        self.assertEqual(len(desk.promises()), 10)
        for k in range(8):
            desk.add(names[k], "go 1")
            desk.rename(names[k], f"other{k}")
        with self.assertRaises(NotKept):
            desk.keep("other3 moved 0")
        for _ in range(26):
            desk.undo()
        self.assertEqual(desk.promises(), ())
