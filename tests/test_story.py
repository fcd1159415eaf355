"""Points [64] to [68]: pictures and stories."""

import re

from tests.helper import NO_BODIES, Case, all_shapes, block, grown, many_bodies, plain_parts, ring, row, spiral

from slideinto.bodies import body_of, frame_of, moved
from slideinto.errors import BadBody, BadNumber, BadText, NoMove, NotThere
from slideinto.story import Story, drawn, picture_of, told, world_of
from slideinto.worlds import World, played

LARGE = 10 ** 5000

NO_TEXTS = (None, 0, True, b"body 0 0", ["body 0 0"], ("body 0 0",), {}, 1.5)

BODY = ((0, 0), (1, 0), (2, 0), (2, 1))
TARGET = ((5, 5), (5, 6), (6, 5), (6, 6))

LINES = (
    "body 0 0", "..#", "###", "target 5 5", "##", "##", "move 2 1 1 1", "go 3", "aim -4 007", "....", ".###", ".#..",
    "....", "go 1", "aim 9 9", "####",
)

TEXT = "\n".join(LINES) + "\n"

# The kinds of words behind the first one of each line.
KINDS = {"body": "ZZ", "target": "ZZ", "aim": "ZZ", "move": "ZZZZ", "go": "N"}


def text_of(lines):
    return "".join(line + "\n" for line in lines)


def plain_column(line, words):
    """The number of the first wrong word of a line that is to begin with one of some words, None if all are right."""
    first, *others = line.split(" ")
    if first not in words:
        return 1
    kinds = KINDS[first]
    for index, kind in enumerate(kinds):
        pattern = {"N": "[0-9]{1,6}", "Z": "-?[0-9]{1,6}"}[kind]
        if index == len(others) or not re.fullmatch(pattern, others[index]):
            return index + 2
    return len(kinds) + 2 if len(others) > len(kinds) else None


def plain_error(text):
    """The line and the column of the first wrong word of a story, None if it is one."""
    lines = text.split("\n")
    lines = lines[:-1] if lines[-1] == "" else lines
    at, words = 0, ["body"]
    while at < len(lines) or words[0] in ("body", "target"):
        if at == len(lines):
            return (at + 1, 1)
        column = plain_column(lines[at], words)
        if column is not None:
            return (at + 1, column)
        head, at = lines[at].split(" ")[0], at + 1
        if head in ("body", "target", "aim"):
            start = at
            while at < len(lines) and re.fullmatch("[#.]+", lines[at]):
                at += 1
            if start == at:
                return (at + 1, 1)
            for index in range(start, at):
                if len(lines[index]) != len(lines[start]):
                    return (index + 1, 1)
            cells = {(x, y) for y in range(start, at) for x, sign in enumerate(lines[y]) if sign == "#"}
            if len(plain_parts(cells)) != 1:
                return (start, 1)
        words = {"body": ["target"]}.get(head, ["move", "go", "aim"])
    return None


def plain_picture(signs):
    columns = [cell[0] for cell in signs]
    rows = [cell[1] for cell in signs]
    return tuple(
        "".join(signs.get((column, up), ".") for column in range(min(columns), max(columns) + 1))
        for up in range(max(rows), min(rows) - 1, -1)
    )


class PictureTest(Case):
    def test_pictures(self):
        self.assertEqual(picture_of(((3, -3),)), ("#",))
        self.assertEqual(picture_of(BODY), ("..#", "###"))
        self.assertEqual(picture_of(body=ring(3, 4)), ("###", "#.#", "#.#", "###"))
        self.assertEqual(picture_of(moved(BODY, (-LARGE, LARGE))), ("..#", "###"))

    def test_many_pictures(self):
        for body in many_bodies():
            told_rows = picture_of(body)
            self.assertEqual(told_rows, plain_picture(dict.fromkeys(body, "#")))
            self.assertIs(type(told_rows), tuple)

    def test_drawn(self):
        self.assertEqual(drawn(((0, 0),), ((0, 0),)), ("#",))
        self.assertEqual(drawn(((0, 0),), ((2, 1),)), ("..+", "-.."))
        self.assertEqual(drawn(row(3), ((1, 0), (1, 1))), (".+.", "-#-"))
        self.assertEqual(drawn(target=row(3), body=((1, 0), (1, 1))), (".-.", "+#+"))
        self.assertEqual(drawn(((0, 0), (0, 1)), row(4, (-2, 3))), ("++++", "....", "..-.", "..-."))

    def test_many_drawn(self):
        bodies = many_bodies()
        for one, two in zip(bodies, bodies[5:] + bodies[:5]):
            two = moved(two, (len(one) % 4 - 2, len(two) % 3))
            signs = {**dict.fromkeys(one, "-"), **dict.fromkeys(two, "+"), **dict.fromkeys(set(one) & set(two), "#")}
            self.assertEqual(drawn(one, two), plain_picture(signs))

    def test_bad_bodies_in_their_order(self):
        for value in NO_BODIES:
            self.assert_error((BadBody, value), picture_of, value)
            self.assert_error((BadBody, value), drawn, value, BODY)
            self.assert_error((BadBody, value), drawn, BODY, value)
            self.assert_error((BadBody, value), drawn, value, None)
            self.assert_error((BadBody, value), drawn, target=(), body=value)

    def test_large_pictures(self):
        for body in (row(200), spiral(40), block(10, 20)):
            self.assertEqual(len(picture_of(body)), frame_of(body)[3] - frame_of(body)[1] + 1)
        rows = drawn(row(40), row(40, (160, 199)))
        self.assertEqual((len(rows), len(rows[0])), (200, 200))


class StoryTest(Case):
    def test_all_deeds(self):
        story = Story(TEXT)
        self.assertEqual(story.text, TEXT)
        self.assertEqual((story.body, story.target), (BODY, TARGET))
        aim = ((-3, 8), (-3, 9), (-2, 9), (-1, 9))
        far = ((9, 9), (10, 9), (11, 9), (12, 9))
        self.assertEqual(
            story.deeds, (("move", (2, 1), (1, 1)), ("go", 3), ("aim", aim), ("go", 1), ("aim", far))
        )
        self.assertEqual(vars(Story(text=TEXT)), vars(story))

    def test_no_deeds(self):
        story = Story("body 0 0\n#\ntarget -0 0\n#")
        self.assertEqual((story.body, story.target, story.deeds), (((0, 0),), ((0, 0),), ()))
        self.assertEqual(told(story), ())

    def test_with_and_without_the_last_line_feed(self):
        for text in (TEXT, TEXT[:-1]):
            self.assertEqual(Story(text).text, text)
            self.assertEqual(Story(text).deeds, Story(TEXT).deeds)
        self.assert_error((BadText, len(LINES) + 1, 1), Story, TEXT + "\n")

    def test_empty_rows_and_columns_around(self):
        text = "body 10 -20\n.....\n..##.\n.##..\n.....\n.....\ntarget 999999 -999999\n####\n"
        self.assertEqual(Story(text).body, ((11, -18), (12, -18), (12, -17), (13, -17)))
        self.assertEqual(Story(text).target, row(4, (999999, -999999)))

    def test_pictures_of_bodies_come_back(self):
        for body in all_shapes(5)[1:] + [ring(3, 3), spiral(20), grown(20, 3)]:
            picture = text_of(picture_of(body))
            story = Story(f"body 0 0\n{picture}target -3 7\n{picture}")
            self.assertEqual((story.body, story.target), (shape(body), moved(shape(body), (-3, 7))))

    def test_no_strings(self):
        for value in NO_TEXTS:
            self.assert_error((BadText, 0, 0), Story, value)

    def test_the_empty_text(self):
        self.assert_error((BadText, 1, 1), Story, "")
        self.assert_error((BadText, 1, 1), Story, "\n")
        self.assert_error((BadText, 1, 1), Story, "\n" + TEXT)

    def assert_told(self, text, line, column):
        self.assertEqual(plain_error(text), (line, column), text)
        self.assert_error((BadText, line, column), Story, text)

    def test_wrong_words(self):
        for index, line in enumerate(LINES):
            if " " in line:
                words = line.split(" ")
                for column in range(len(words)):
                    others = ["", "x", "+1", "--1", "-", "1-", "1234567", "-1234567", " 1", "1\t", "0x1", "1.0"]
                    others += ["Body", "1_0"] + (["-1", "-0"] if words[0] == "go" else [])
                    for other in others:
                        changed = " ".join(words[:column] + [other] + words[column + 1:])
                        # A blank makes an empty word ahead of the rest.
                        self.assert_told(text_of(LINES[:index] + (changed,) + LINES[index + 1:]), index + 1, column + 1)

    def test_missing_and_needless_words(self):
        for index, line in enumerate(LINES):
            if " " in line:
                words = line.split(" ")
                for many in range(1, len(words)):
                    changed = LINES[:index] + (" ".join(words[:many]),) + LINES[index + 1:]
                    self.assert_told(text_of(changed), index + 1, many + 1)
                for more in (" ", " 1", " x", "  ", " 1 2", " #"):
                    changed = LINES[:index] + (line + more,) + LINES[index + 1:]
                    self.assert_told(text_of(changed), index + 1, len(words) + 1)
                self.assert_told(text_of(LINES[:index] + (" " + line,) + LINES[index + 1:]), index + 1, 1)
                double = line.replace(" ", "  ", 1)
                self.assert_told(text_of(LINES[:index] + (double,) + LINES[index + 1:]), index + 1, 2)

    def test_all_numbers_that_are_words(self):
        for word, number in (("0", 0), ("-0", 0), ("000001", 1), ("999999", 999999), ("-999999", -999999), ("-07", -7)):
            text = TEXT.replace("body 0 0", f"body {word} 0")
            self.assertEqual(Story(text).body, moved(BODY, (number, 0)))
            text = TEXT.replace("body 0 0", f"body 0 {word}")
            self.assertEqual(Story(text).body, moved(BODY, (0, number)))
            text = TEXT.replace("move 2 1 1 1", f"move 2 1 1 {word}")
            self.assertEqual(Story(text).deeds[0], ("move", (2, 1), (1, number)))
            if number >= 0 and not word.startswith("-"):
                self.assertEqual(Story(TEXT.replace("go 3", f"go {word}")).deeds[1], ("go", number))

    def test_a_missing_line(self):
        self.assert_told("body 0 0", 2, 1)
        self.assert_told("body 0 0\n", 2, 1)
        self.assert_told("body 0 0\n#", 3, 1)
        self.assert_told("body 0 0\n#\n", 3, 1)
        self.assert_told("body 0 0\n#\n#\ntarget 0 0\n", 5, 1)
        self.assert_told(text_of(LINES[:-1]), 16, 1)

    def test_a_missing_picture(self):
        self.assert_told("body 0 0\ntarget 0 0\n#\n", 2, 1)
        self.assert_told("body 0 0\n\n#\ntarget 0 0\n#\n", 2, 1)
        self.assert_told("body 0 0\n# \ntarget 0 0\n#\n", 2, 1)
        self.assert_told("body 0 0\n#\ntarget 0 0\ngo 1\n", 4, 1)
        self.assert_told("body 0 0\n#\ntarget 0 0\n#\naim 0 0\naim 0 0\n#\n", 6, 1)

    def test_lines_of_other_lengths(self):
        self.assert_told("body 0 0\n##\n#\ntarget 0 0\n##\n", 3, 1)
        self.assert_told("body 0 0\n#\n##\n###\ntarget 0 0\n##\n", 3, 1)
        self.assert_told("body 0 0\n##\ntarget 0 0\n##\n.\n..\n", 5, 1)
        self.assert_told("body 0 0\n##\ntarget 0 0\n##\naim 0 0\n..\n##\n##.\n", 8, 1)

    def test_pictures_that_are_no_bodies(self):
        self.assert_told("body 0 0\n..\ntarget 0 0\n##\n", 1, 1)
        self.assert_told("body 0 0\n#.#\ntarget 0 0\n##\n", 1, 1)
        self.assert_told("body 0 0\n##\ntarget 0 0\n#.\n.#\n", 3, 1)
        self.assert_told("body 0 0\n##\ntarget 0 0\n##\ngo 1\naim 0 0\n#.#\n", 6, 1)

    def test_they_come_behind_the_errors_of_the_lines_up_to_their_end(self):
        self.assert_told("body 0 0\n#.#\n##\ntarget x 0\n##\n", 3, 1)
        self.assert_told("body 0 0\n...\n..\ntarget 0 0\n##\n", 3, 1)
        self.assert_told("body 0 0 0\n#.#\ntarget 0 0\n##\n", 1, 4)
        self.assert_told("body 0 0\n#.#\n", 1, 1)
        self.assert_told("body 0 0\n#.#\ntarget x 0\n##\n", 1, 1)
        self.assert_told("body 0 0\n##\ntarget 0 0\n#.#\nrun\n", 3, 1)
        self.assert_told("body 0 0\n##\ntarget 0 0\n##\naim 0 0\n#.#\naim\n", 5, 1)

    def test_lines_in_other_places(self):
        self.assert_told(text_of(LINES[:3] + LINES[6:]), 4, 1)
        self.assert_told(text_of(LINES[3:6] + LINES[:3]), 1, 1)
        self.assert_told(text_of(LINES[:3] + LINES[:6]), 4, 1)
        self.assert_told(text_of(LINES[:6] + LINES[3:6]), 7, 1)
        self.assert_told(text_of(LINES[:7] + ("",) + LINES[7:]), 8, 1)
        self.assert_told(text_of(LINES[:7] + ("##",) + LINES[7:]), 8, 1)
        self.assert_told(text_of(LINES + ("world a",)), 17, 1)

    def test_lines_taken_out_doubled_and_changed(self):
        """What is no wrong text to the plain telling raises no BadText."""
        texts = []
        for index in range(len(LINES)):
            ahead, behind = LINES[:index], LINES[index + 1:]
            for change in ((), (LINES[index],) * 2, ("#",), ("...",), ("###",), ("",), ("aim 0 0",),
                (LINES[index] + " ",)):
                texts += [text_of(ahead + change + behind), text_of(ahead + change)]
        met = {True: 0, False: 0}
        for text in texts:
            error = plain_error(text)
            met[error is None] += 1
            if error is not None:
                self.assert_error((BadText, *error), Story, text)
            else:
                try:
                    Story(text)
                except BadNumber as caught:
                    self.assertEqual(caught.what, "squares")
        self.assertGreater(min(met.values()), 10)

    def test_errors_of_the_world_come_last(self):
        self.assert_error((BadNumber, "squares", 3), Story, "body 0 0\n##\ntarget 0 0\n###\n")
        self.assert_error((BadBody, ((0, 1),)), Story, "body 0 0\n#\ntarget 0 1\n#\n")
        self.assert_error((BadText, 5, 2), Story, "body 0 0\n##\ntarget 0 0\n###\ngo x\n")
        self.assert_error((BadText, 5, 1), Story, "body 0 0\n#\ntarget 0 1\n#\naim 0 0\n...\n")


def shape(body):
    frame = frame_of(body)
    return moved(body, (-frame[0], -frame[1]))


class WorldOfTest(Case):
    def test_behind_all_deeds(self):
        story = Story(TEXT)
        world = world_of(story)
        self.assertIsInstance(world, World)
        plain = played(story.body, story.target, story.deeds)
        self.assertEqual((world.body, world.target), (plain.body, plain.target))
        self.assertEqual((world.history(), world.plan()), (plain.history(), plain.plan()))
        self.assertEqual(world.target, row(4, (9, 9)))
        self.assertEqual(len(world.history()), 5)
        self.assertEqual(world_of(story=story).history(), world.history())

    def test_the_kept_plan_goes_on(self):
        text = text_of(LINES[:6])
        one = world_of(Story(text + "go 4\n"))
        two = world_of(Story(text + "go 1\ngo 3\n"))
        whole = World(BODY, TARGET).plan()
        self.assertEqual((one.plan(), two.plan()), (whole[4:], whole[4:]))

    def test_errors_as_they_come(self):
        text = text_of(LINES[:6])
        self.assert_error((NotThere, (9, 9)), world_of, Story(text + "move 9 9 9 8\nmove 0 0 1 0\n"))
        self.assert_error((NoMove, (0, 0), (1, 0)), world_of, Story(text + "go 0\nmove 0 0 1 0\n"))
        self.assert_error((BadNumber, "squares", 2), world_of, Story(text + "go 1\naim 0 0\n##\n"))
        one = "body 3 3\n#\ntarget 3 3\n#\naim 3 2\n#\n"
        self.assert_error((BadBody, ((3, 2),)), world_of, Story(one))

    def test_one_story_twice(self):
        story = Story(TEXT)
        before = dict(vars(story))
        for _ in range(2):
            self.assertEqual(world_of(story).history(), world_of(Story(TEXT)).history())
            self.assertEqual(told(story), told(Story(TEXT)))
        self.assertEqual(vars(story), before)


class ToldTest(Case):
    def test_all_deeds(self):
        self.assertEqual(told(Story(TEXT)), ("moved", "went 3", "aimed", "went 1", "aimed"))
        self.assertEqual(told(story=Story(text_of(LINES[:6]))), ())

    def test_how_many_moves(self):
        text = text_of(LINES[:6])
        many = len(World(BODY, TARGET).plan())
        self.assertEqual(told(Story(text + "go 0\ngo 999999\ngo 1\n")), ("went 0", f"went {many}", "went 0"))

    def test_up_to_the_first_error(self):
        text = text_of(LINES[:6])
        for line in ("move 9 9 9 8\n", "move 0 0 1 0\n", "aim 0 0\n##\n"):
            self.assertEqual(told(Story(text + line)), ("error",))
            self.assertEqual(told(Story(text + "go 2\n" + line + "go 1\n" + line)), ("went 2", "error"))
        self.assertEqual(told(Story("body 3 3\n#\ntarget 3 3\n#\ngo 1\naim 3 2\n#\ngo 1\n")), ("went 0", "error"))

    def test_kinds(self):
        words = told(Story(TEXT))
        self.assertEqual((type(words), {type(word) for word in words}), (tuple, {str}))
        self.assertEqual(body_of(Story(TEXT).body), Story(TEXT).body)
