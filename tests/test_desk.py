"""Points [69] to [73]: files, items, edits and promises of the desk."""

from tests.helper import NO_NUMBERS, Case, row

from slideinto.bodies import free_squares, moved
from slideinto.desk import Desk
from slideinto.errors import BadBody, BadName, BadNumber, BadText, NoMove, NoName, NotKept, NothingToRedo, NothingToUndo
from slideinto.errors import NotThere, TakenName
from slideinto.joining import plan_between
from slideinto.story import Story, world_of
from slideinto.worlds import World

NO_TEXTS = (None, 0, True, b"world a", ["world a"], ("world a",), {}, 1.5)
NO_STRINGS = (None, 0, True, b"a", ["a"], ("a",), {}, 1.5)
NO_NAMES = ("", "A", "aB", "1a", "a" * 13, "a b", "a-b", "a\n", " a", "a_b", "-a") + NO_STRINGS

ONE = "body 0 0\n..#\n###\ntarget 5 5\n####\nmove 2 1 1 1\ngo 2\n"
TWO = "body -3 4\n##\n##\ntarget -3 4\n##\n##\n"
THREE = "body 1 1\n#\ntarget 1 1\n#\ngo 1\n"
FILE = f"world one\n{ONE}world two\n{TWO}world three\n{THREE}"


def item(name, text):
    return f"world {name}\n{text}"


def at_desk(text=FILE):
    return Desk(text)


def state(desk):
    return desk.lines(), desk.promises(), desk.item_names(), desk.broken()


def whole(desk):
    """All that can be told, also what undo and redo lead to."""
    told = [state(desk)]
    ways = []
    for call, back, error in ((desk.undo, desk.redo, NothingToUndo), (desk.redo, desk.undo, NothingToRedo)):
        many = 0
        while True:
            try:
                call()
            except error:
                break
            many += 1
            told.append(state(desk))
        ways.append(many)
        for _ in range(many):
            back()
    return told, ways


class DeskTest(Case):
    def assert_unchanged(self, error, desk, call, *values, **named):
        before = whole(desk)
        self.assert_error(error, call, *values, **named)
        self.assertEqual(whole(desk), before)


class FileTest(DeskTest):
    def test_no_item(self):
        for desk in (Desk(), Desk(""), Desk(text="")):
            self.assertEqual(whole(desk), ([("", (), (), ())], [0, 0]))

    def test_items(self):
        desk = Desk(text=FILE)
        self.assertEqual(desk.item_names(), ("one", "two", "three"))
        self.assertEqual(desk.lines(), FILE)
        self.assertEqual(Desk(FILE[:-1]).lines(), FILE)
        self.assertEqual(Desk(item("one", ONE)).item_names(), ("one",))
        self.assertEqual(Desk(desk.lines()).lines(), FILE)
        self.assert_error((NothingToUndo,), desk.undo)
        self.assert_error((NothingToRedo,), desk.redo)

    def test_names(self):
        for name in ("a", "z9", "world", "body", "a" * 12, "there"):
            self.assertEqual(Desk(item(name, TWO)).item_names(), (name,))
        for name in ("", "A", "1a", "a" * 13, "a-b", "a\t", "_a"):
            self.assert_error((BadText, 1, 2), Desk, item(name, TWO))

    def test_no_strings(self):
        for value in NO_TEXTS:
            self.assert_error((BadText, 0, 0), Desk, value)
            self.assert_unchanged((BadText, 0, 0), at_desk(), at_desk().put, value)

    def test_wrong_lines_world(self):
        for line, column in (
            ("world", 2), ("world ", 2), ("world  a", 2), ("world A", 2), ("world a b", 3), ("world a ", 3),
            ("world two", 2), ("world A b", 2), ("world two b", 2), ("world a  b", 3),
        ):
            self.assert_error((BadText, 16, column), Desk, f"{item('one', ONE)}{item('two', TWO)}{line}\n{TWO}")

    def test_lines_ahead_of_the_first_line_world(self):
        for text in ("\n", "body 0 0\n", " world a\n", "worlds a\n", "World a\n", ONE, f"\n{FILE}", f"#\n{FILE}"):
            self.assert_error((BadText, 1, 1), Desk, text)

    def test_the_first_wrong_line_world_comes_ahead_of_all_stories(self):
        text = item("one", "body x\n") + item("two", TWO) + item("two", TWO)
        self.assert_error((BadText, 10, 2), Desk, text)
        self.assert_error((BadText, 3, 3), Desk, item("one", "body x\n") + "world a b\nworld a\n")

    def test_errors_of_stories_with_the_lines_of_the_file(self):
        ahead = item("one", ONE)
        for story, line, column in (
            ("", 10, 1), ("body 0\n", 10, 3), ("body 0 0\n", 11, 1), ("body 0 0\n##\n#\n", 12, 1),
            ("body 0 0\n#.#\ntarget\n", 10, 1), ("body 0 0\n##\ntarget 0 0\n", 13, 1), (TWO + "go x\n", 16, 2),
            (TWO + "\n", 16, 1), (TWO + "aim 1 1\n", 17, 1),
        ):
            self.assertEqual(len(ahead.split("\n")), 9)
            text = f"{ahead}{item('two', story)}"
            self.assert_error((BadText, line, column), Desk, text)
            # What is missing keeps its number, whatever stands behind the item.
            self.assert_error((BadText, line, column), Desk, text + item("three", THREE))
            self.assert_error((BadText, line, column), Desk, text + item("three", "go 1\n"))
            self.assert_unchanged((BadText, line, column), at_desk(), at_desk().put, text)

    def test_errors_of_one_item_ahead_of_those_of_the_next_one(self):
        moves = item("a", TWO + "move 9 9 9 8\n")
        squares = item("b", "body 0 0\n##\ntarget 0 0\n###\n")
        one = item("c", "body 0 0\n#\ntarget 0 1\n#\n")
        wrong = item("d", "body 0 0 0\n")
        for text, error in (
            (moves, (NotThere, (9, 9))), (squares, (BadNumber, "squares", 3)), (one, (BadBody, ((0, 1),))),
            (moves + wrong, (NotThere, (9, 9))), (wrong + moves, (BadText, 2, 4)),
            (squares + moves, (BadNumber, "squares", 3)),
            (moves + squares, (NotThere, (9, 9))), (one + squares, (BadBody, ((0, 1),))),
            (item("e", TWO + "move -3 4 -2 4\n") + wrong, (NoMove, (-3, 4), (-2, 4))),
            (item("e", TWO + "move 0 0 1 0\naim x\n") + moves, (BadText, 9, 2)),
        ):
            self.assert_error(error, Desk, text)
            desk = at_desk()
            self.assert_unchanged(error, desk, desk.put, text)

    def test_with_put_the_order_is_that_of_the_desk(self):
        wrong_one, wrong_two = item("one", "body 0 0 0\n"), item("two", "target 0 0\n")
        self.assert_error((BadText, 2, 4), Desk, wrong_one + wrong_two)
        self.assert_error((BadText, 2, 1), Desk, wrong_two + wrong_one)
        desk = at_desk()
        self.assert_unchanged((BadText, 4, 4), desk, desk.put, wrong_two + wrong_one)
        self.assert_unchanged((BadText, 2, 4), desk, desk.put, wrong_one + wrong_two)
        self.assert_unchanged((BadText, 4, 1), desk, desk.put, item("new", "body\n") + wrong_two)


class GetTest(DeskTest):
    def test_stories_and_worlds(self):
        desk = at_desk()
        for name, text in (("one", ONE), ("two", TWO), ("three", THREE)):
            story = desk.get_story(name)
            self.assertIsInstance(story, Story)
            self.assertEqual(vars(story), vars(Story(text)))
            world = desk.get_world(name=name)
            plain = world_of(Story(text))
            self.assertIsInstance(world, World)
            self.assertEqual((world.body, world.target), (plain.body, plain.target))
            self.assertEqual((world.history(), world.plan()), (plain.history(), plain.plan()))

    def test_worlds_are_made_anew(self):
        desk = at_desk()
        desk.keep("one moved 3")
        before = whole(desk)
        world = desk.get_world("one")
        world.go(9)
        world.aim(moved(world.body, (1, 1)))
        self.assertEqual(whole(desk), before)
        self.assertEqual(len(desk.get_world("one").history()), 3)
        self.assertEqual(desk.holds("one moved 2"), (False, 3))

    def test_errors(self):
        desk = at_desk()
        for value in NO_STRINGS:
            for call in (desk.get_story, desk.get_world, desk.drop):
                self.assert_unchanged((BadName, value), desk, call, value)
                self.assert_unchanged((BadName, value), desk, call, name=value)
        for value in ("", "four", "One", "one two", "a" * 20, "one\n"):
            for call in (desk.get_story, desk.get_world, desk.drop):
                self.assert_unchanged((NoName, value), desk, call, value)


class EditsTest(DeskTest):
    def test_put(self):
        desk = at_desk()
        self.assertIsNone(desk.put(item("two", THREE) + item("four", TWO)))
        self.assertEqual(desk.item_names(), ("one", "two", "three", "four"))
        self.assertEqual(desk.lines(), item("one", ONE) + item("two", THREE) + item("three", THREE) + item("four", TWO))
        desk.put(text=item("six", TWO) + item("one", TWO) + item("five", TWO))
        self.assertEqual(desk.item_names(), ("one", "two", "three", "four", "six", "five"))
        self.assertEqual(desk.get_story("one").text, TWO)
        desk.undo()
        desk.undo()
        self.assertEqual(desk.lines(), FILE)

    def test_drop(self):
        desk = at_desk()
        for promise in ("one moved 3", "two there", "two like two", "one becomes two 99999", "three covers 1 1"):
            desk.keep(promise)
        self.assertIsNone(desk.drop("two"))
        self.assertEqual(desk.item_names(), ("one", "three"))
        self.assertEqual(desk.promises(), ("one moved 3", "three covers 1 1"))
        self.assertEqual(desk.lines(), item("one", ONE) + item("three", THREE))
        desk.drop(name="one")
        desk.drop("three")
        self.assertEqual(state(desk), ("", (), (), ()))
        for _ in range(3):
            desk.undo()
        self.assertEqual(desk.promises()[1:4], ("two there", "two like two", "one becomes two 99999"))
        self.assertEqual(desk.lines(), FILE)

    def test_drop_knows_names_from_other_words(self):
        desk = Desk(item("one", ONE) + item("moved", TWO) + item("like", TWO))
        for promise in ("one moved 3", "moved like like", "like like like", "one loose 1"):
            desk.keep(promise)
        desk.drop("like")
        self.assertEqual(desk.promises(), ("one moved 3", "one loose 1"))
        desk.drop("moved")
        self.assertEqual(desk.promises(), ("one moved 3", "one loose 1"))
        desk.drop("one")
        self.assertEqual(desk.promises(), ())

    def test_rename(self):
        desk = at_desk()
        self.assertIsNone(desk.rename("two", "there"))
        self.assertEqual(desk.item_names(), ("one", "there", "three"))
        self.assertEqual(desk.lines(), FILE.replace("world two", "world there"))
        for promise in ("there there", "there like there", "one becomes there 99999", "one moved 3",
            "there becomes one 99999"):
            desk.keep(promise)
        desk.rename(new="like", name="there")
        self.assertEqual(
            desk.promises(),
            ("like there", "like like like", "one becomes like 99999", "one moved 3", "like becomes one 99999"),
        )
        desk.rename("one", "moved")
        self.assertEqual(desk.promises()[2:], ("moved becomes like 99999", "moved moved 3", "like becomes moved 99999"))
        self.assertEqual(desk.item_names(), ("moved", "like", "three"))
        desk.undo()
        desk.undo()
        self.assertEqual(desk.promises()[0], "there there")
        desk.redo()
        self.assertEqual(desk.promises()[0], "like there")

    def test_errors_of_rename_in_their_order(self):
        desk = at_desk()
        for value in NO_NAMES:
            for name in ("one", "four", None, 5):
                self.assert_unchanged((BadName, value), desk, desk.rename, name, value)
        for value in NO_STRINGS:
            for new in ("new", "one"):
                self.assert_unchanged((BadName, value), desk, desk.rename, value, new)
        for value in ("four", "", "One", "a b"):
            for new in ("new", "one"):
                self.assert_unchanged((NoName, value), desk, desk.rename, value, new)
        for new in ("one", "two"):
            self.assert_unchanged((TakenName, new), desk, desk.rename, "one", new)

    def test_edit(self):
        desk = at_desk()
        self.assertIsNone(desk.edit("one", 6, "go 3\ngo 1\n"))
        self.assertEqual(desk.get_story("one").text, ONE.replace("move 2 1 1 1\n", "go 3\ngo 1\n"))
        desk.edit(text="", number=7, name="one")
        self.assertEqual(desk.get_story("one").text, ONE.replace("move 2 1 1 1\n", "go 3\n"))
        desk.edit("one", 8, "go 1")
        self.assertEqual(desk.get_story("one").text, ONE.replace("move 2 1 1 1\n", "go 3\n") + "go 1\n")
        desk.edit("one", 1, "body 1 1")
        self.assertEqual(desk.get_story("one").body, ((1, 1), (2, 1), (3, 1), (3, 2)))
        desk.edit("one", 9, "")
        self.assertEqual(desk.item_names(), ("one", "two", "three"))
        for _ in range(5):
            desk.undo()
        self.assertEqual(desk.lines(), FILE)

    def test_the_number_of_a_line(self):
        desk = at_desk()
        for value in NO_NUMBERS + (0, -1, 9, 10 ** 30):
            self.assert_unchanged((BadNumber, "line", value), desk, desk.edit, "one", value, "go 1")
            self.assert_unchanged((BadNumber, "line", value), desk, desk.edit, "one", value, "world x")
        for value in (0, 8, 9):
            self.assert_unchanged((BadNumber, "line", value), desk, desk.edit, "two", value, "go 1")
        desk.edit("one", 8, "go 1")
        desk.edit("two", 7, "go 1")

    def test_errors_of_edit_in_their_order(self):
        desk = at_desk()
        for value in NO_STRINGS:
            self.assert_unchanged((BadName, value), desk, desk.edit, value, 0, None)
            self.assert_unchanged((BadName, value), desk, desk.add, value, None)
        for value in NO_TEXTS:
            self.assert_unchanged((BadText, 0, 0), desk, desk.edit, "four", 0, value)
            self.assert_unchanged((BadText, 0, 0), desk, desk.add, "four", value)
        for name in ("four", "", "One"):
            self.assert_unchanged((NoName, name), desk, desk.edit, name, 0, "world x")
            self.assert_unchanged((NoName, name), desk, desk.add, name, "world x")

    def test_lines_world_in_an_edit(self):
        desk = at_desk()
        for line in ("world", "world x", "world one", "world x y"):
            self.assert_unchanged((BadText, 6, 1), desk, desk.edit, "one", 6, line)
            self.assert_unchanged((BadText, 8, 1), desk, desk.edit, "one", 6, f"go x\n\n{line}\nworld z\n")
            self.assert_unchanged((BadText, 1, 1), desk, desk.edit, "one", 1, f"{line}\n")
            self.assert_unchanged((BadText, 8, 1), desk, desk.edit, "one", 8, line)
            self.assert_unchanged((BadText, 8, 1), desk, desk.add, "one", line)
            self.assert_unchanged((BadText, 9, 1), desk, desk.add, "one", f"go x\n{line}")
        self.assert_unchanged((BadText, 6, 1), desk, desk.edit, "one", 6, "worlds x")
        self.assert_unchanged((BadText, 6, 1), desk, desk.edit, "one", 6, " world x")

    def test_lines_are_counted_from_the_line_world(self):
        desk = at_desk()
        for name in ("one", "two"):
            last = len(desk.get_story(name).text.split("\n"))
            self.assert_unchanged((BadText, 1, 3), desk, desk.edit, name, 1, "body 0")
            self.assert_unchanged((BadText, last, 2), desk, desk.edit, name, last, "go x")
            self.assert_unchanged((BadText, last + 1, 1), desk, desk.edit, name, last, "aim 0 0")
            self.assert_unchanged((BadText, last + 1, 2), desk, desk.add, name, "go 1\ngo\n")
        self.assert_unchanged((BadText, 4, 1), desk, desk.edit, "three", 4, "")
        self.assert_unchanged((BadText, 1, 1), desk, desk.edit, "three", 2, ".")
        self.assert_unchanged((BadText, 1, 1), desk, desk.edit, "one", 3, "#.#")
        self.assert_unchanged((NotThere, (9, 9)), desk, desk.add, "one", "move 9 9 9 8")
        self.assert_unchanged((BadNumber, "squares", 3), desk, desk.edit, "two", 5, "#.")
        self.assert_unchanged((BadBody, ((5, 5),)), desk, desk.edit, "three", 3, "target 5 5")

    def test_add(self):
        desk = at_desk()
        self.assertIsNone(desk.add("two", "aim 0 0\n####\ngo 1"))
        self.assertEqual(desk.get_story("two").text, TWO + "aim 0 0\n####\ngo 1\n")
        desk.add(text="go 2\n", name="two")
        self.assertEqual(len(desk.get_world("two").history()), 3)
        desk.add("two", "")
        self.assertEqual(len(desk.get_world("two").history()), 3)
        for _ in range(3):
            desk.undo()
        self.assertEqual(desk.lines(), FILE)


WRONG_PROMISES = (
    ("", 1), (" ", 1), ("One there", 1), ("1 there", 1), ("one", 2), ("one ", 2), ("one  there", 2), ("one There", 2),
    ("one is", 2), ("one there ", 3), ("one there x", 3), ("one there x y", 3), ("one within", 3), ("one within ", 3),
    ("one within x", 3), ("one within -1", 3), ("one within 1234567", 3), ("one within 1 ", 4), ("one within 1 2", 4),
    ("one moved", 3), ("one moved +1", 3), ("one moved 1 1", 4), ("one loose", 3), ("one loose 1.0", 3),
    ("one loose -0", 3), ("one loose 1 x", 4), ("one covers", 3), ("one covers 1", 4), ("one covers x 1", 3),
    ("one covers 1 x", 4), ("one covers --1 1", 3), ("one covers 1 1 1", 5), ("one covers 1 1234567", 4),
    ("one like", 3),
    ("one like Two", 3), ("one like 2", 3), ("one like two 1", 4), ("one becomes", 3), ("one becomes two", 4),
    ("one becomes Two 1", 3), ("one becomes two -1", 4), ("one becomes two x", 4), ("one becomes two 1 ", 5),
    ("one becomes 5", 3), ("a" * 13 + " there", 1), ("ONE is", 1), ("one\n there", 1), ("one there\n", 2),
    ("one\nthere", 1), ("one within 1\n", 3), ("one within\n 1", 2), ("one there \n", 3), ("one there\ntwo there", 2),
    ("one like two\n", 3), ("one covers 1 1\n", 4), ("one becomes two 1\n", 4), ("\none there", 1),
    ("one becomes \ntwo 1", 3),
    ("four is", 2), ("one like four x", 4), ("four becomes five", 4), ("one\tthere", 1),
)


class PromisesTest(DeskTest):
    def desk(self):
        """A desk with worlds of 2, 3 and 0 moves: their targets are away, somewhere else and here."""
        return Desk(FILE)

    def test_wrong_words(self):
        desk = self.desk()
        for promise, column in WRONG_PROMISES:
            for call in (desk.keep, desk.holds):
                self.assert_unchanged((BadText, 1, column), desk, call, promise)
                self.assert_unchanged((BadText, 1, column), desk, call, promise=promise)

    def test_no_strings(self):
        desk = self.desk()
        for value in NO_TEXTS:
            for call in (desk.keep, desk.holds, desk.release):
                self.assert_unchanged((BadText, 0, 0), desk, call, value)

    def test_names_that_are_none(self):
        desk = self.desk()
        for promise, name in (
            ("four there", "four"), ("four within 3", "four"), ("four moved 3", "four"), ("four loose 3", "four"),
            ("four covers 1 1", "four"), ("four like one", "four"), ("one like four", "four"),
            ("four like five", "four"),
            ("four becomes one 3", "four"), ("one becomes four 3", "four"), ("five becomes four 3", "five"),
        ):
            for call in (desk.keep, desk.holds):
                self.assert_unchanged((NoName, name), desk, call, promise)

    def assert_border(self, desk, words, border, more_is_right):
        """A promise with a number is kept just on one side of the border, and tells what is held against it."""
        for number in range(max(0, border - 2), border + 3):
            kept = number <= border if more_is_right else number >= border
            promise = f"{words} {number}"
            told = (True, None) if kept else (False, border)
            self.assertEqual(desk.holds(promise), told, promise)
            self.assertEqual(desk.holds(promise=f"{words} 00{number}"), told)
            if kept:
                self.assertIsNone(desk.keep(promise))
            else:
                self.assert_unchanged((NotKept, promise, border), desk, desk.keep, promise)

    def test_within_moved_loose_and_becomes(self):
        desk = self.desk()
        for name in desk.item_names():
            world = desk.get_world(name)
            self.assert_border(desk, f"{name} within", len(world.plan()), False)
            self.assert_border(desk, f"{name} moved", len(world.history()), False)
            self.assert_border(desk, f"{name} loose", len(free_squares(world.body)), True)
            for other in desk.item_names():
                end = desk.get_world(other).body
                if len(end) == len(world.body):
                    self.assert_border(desk, f"{name} becomes {other}", len(plan_between(world.body, end)), False)

    def test_the_plan_that_is_kept_counts(self):
        desk = Desk(item("a", "body 0 0\n..#\n###\ntarget 5 5\n####\ngo 4\n"))
        plan = World(Story(desk.lines()[8:]).body, row(4, (5, 5))).plan()
        self.assertEqual(desk.holds("a within 0"), (False, len(plan) - 4))
        self.assertNotEqual(len(plan_between(desk.get_world("a").body, row(4, (5, 5)))), len(plan) - 4)

    def test_there(self):
        desk = self.desk()
        self.assertEqual(desk.holds("one there"), (False, None))
        self.assertEqual(desk.holds("two there"), (True, None))
        self.assert_unchanged((NotKept, "one there", None), desk, desk.keep, "one there")
        desk.add("one", "go 999\n")
        self.assertEqual(desk.holds("one there"), (True, None))

    def test_covers(self):
        desk = self.desk()
        body = desk.get_world("two").body
        for column in range(-5, 0):
            for up in range(3, 8):
                told = (True, None) if (column, up) in body else (False, None)
                self.assertEqual(desk.holds(f"two covers {column} {up}"), told)
        self.assert_unchanged((NotKept, "two covers 0 0", None), desk, desk.keep, "two covers 0 0")
        self.assertEqual(desk.holds("three covers 01 1"), (True, None))
        self.assertEqual(desk.holds("three covers -1 1"), (False, None))

    def test_like(self):
        desk = self.desk()
        desk.put(item("four", "body 50 -9\n##\n##\ntarget 0 0\n####\n"))
        self.assertEqual(desk.holds("two like four"), (True, None))
        self.assertEqual(desk.holds("four like two"), (True, None))
        self.assertEqual(desk.holds("one like one"), (True, None))
        for promise in ("one like two", "one like three", "three like one"):
            self.assertEqual(desk.holds(promise), (False, None))
        self.assert_unchanged((NotKept, "one like two", None), desk, desk.keep, "one like two")

    def test_becomes_without_a_plan(self):
        desk = self.desk()
        desk.put(item("four", THREE) + item("five", THREE.replace("1 1", "1 2")))
        self.assertEqual(desk.holds("three becomes four 0"), (True, None))
        for promise in ("three becomes five 999999", "one becomes three 999999", "three becomes one 999999"):
            self.assertEqual(desk.holds(promise), (False, None))
            self.assert_unchanged((NotKept, promise, None), desk, desk.keep, promise)
        self.assertEqual(desk.holds("one becomes one 0"), (True, None))

    def test_keep_and_release(self):
        desk = self.desk()
        self.assertIsNone(desk.keep("two there"))
        desk.keep(promise="one moved 3")
        desk.keep("two there")
        desk.keep("one moved 03")
        self.assertEqual(desk.promises(), ("two there", "one moved 3", "one moved 03"))
        self.assertEqual(desk.broken(), ())
        for promise in ("one there", "", "two there ", "one moved 003", "nothing"):
            self.assert_unchanged((NoName, promise), desk, desk.release, promise)
        self.assertIsNone(desk.release("two there"))
        desk.release(promise="one moved 03")
        self.assertEqual(desk.promises(), ("one moved 3",))
        self.assertEqual(whole(desk)[1], [6, 0])

    def test_every_edit_looks_at_all_promises(self):
        desk = self.desk()
        for promise in ("one loose 1", "two there", "one moved 3", "one like one"):
            desk.keep(promise)
        self.assert_unchanged((NotKept, "two there", None), desk, desk.add, "two", "aim 0 0\n####\n")
        self.assert_unchanged((NotKept, "one moved 3", 4), desk, desk.add, "one", "go 1\n")
        self.assert_unchanged((NotKept, "one moved 3", 7), desk, desk.edit, "one", 7, "go 6\n")
        both = item("two", ONE) + item("one", ONE + "go 1\n")
        self.assert_unchanged((NotKept, "two there", None), desk, desk.put, both)
        desk.release("two there")
        self.assert_unchanged((NotKept, "one moved 3", 4), desk, desk.put, both)

    def test_promises_may_be_kept_by_other_edits(self):
        desk = self.desk()
        desk.keep("two like two")
        desk.put(item("four", TWO))
        desk.keep("two like four")
        self.assert_unchanged((NotKept, "two like four", None), desk, desk.put, item("four", ONE))
        desk.put(item("four", ONE) + item("two", ONE))
        desk.drop("four")
        self.assertEqual(desk.promises(), ("two like two",))
