"""Points [95] to [97]: pictures of placings."""

from tests.helper import NO_CELLS, Case, drawn_plan, many_bodies, ring, row
from tests.test_named import NO_PLACINGS, PLACES

from slideinto.bodies import frame_of, moved
from slideinto.errors import BadBody, BadCell, BadText, NotKept
from slideinto.joining import crawl
from slideinto.letters import film, lettered, placing_of
from slideinto.moves import done, moves_of
from slideinto.named import body_under, named_behind, placed

FAR = 10 ** 30
LARGE = 10 ** 5000

LETTERS = "abcdefghijklmnopqrstuvwxyz"

NO_ROWS = (None, 0, "ab", "", {}, [], (), [None], ["ab", None], ["ab", ["cd"]], [b"ab"], ("ab", 5), 1.5, {"ab": 1})


def plan_for(body, many, seed):
    return drawn_plan(body, many, seed, moves_of, done)


def plain_picture(places, frame):
    west, south, east, north = frame
    signs = {cell: name[0] for name, cell in places}
    rows = range(north, south - 1, -1)
    return tuple("".join(signs.get((column, up), ".") for column in range(west, east + 1)) for up in rows)


def some_placings():
    """Placings with unlike letters, in orders that differ."""
    for seed, body in enumerate(many_bodies()):
        if len(body) < 27:
            names = LETTERS[seed % 7:][:len(body)] if len(body) < 20 else LETTERS[:len(body)]
            yield placed(body, list(names)[::-1] if seed % 2 else list(names))


class LetteredTest(Case):
    def test_pictures(self):
        self.assertEqual(lettered((("a", (3, -3)),)), ("a",))
        self.assertEqual(lettered(PLACES), ("b..", "acd"))
        self.assertEqual(lettered(places=(("a", (LARGE, FAR)), ("a1", (LARGE, FAR + 1)))), ("a", "a"))
        self.assertEqual(lettered(placed(ring(3, 3), list("hgfedcba"))), ("fda", "g.b", "hec"))

    def test_many_pictures(self):
        for places in some_placings():
            self.assertEqual(lettered(places), plain_picture(places, frame_of(body_under(places))))
            self.assertIs(type(lettered(places)), tuple)

    def test_no_placings(self):
        for value in NO_PLACINGS:
            self.assert_error((BadBody, value), lettered, value)
            self.assert_error((BadBody, value), film, value, ())
            self.assert_error((BadBody, value), film, value, [None])


class PlacingOfTest(Case):
    def test_placings(self):
        self.assertEqual(placing_of(["a"], (3, -3)), (("a", (3, -3)),))
        self.assertEqual(placing_of(("b..", "acd"), (0, 0)), tuple((name[0], cell) for name, cell in PLACES))
        told = (("y", (LARGE + 1, -FAR)), ("z", (LARGE, -FAR)))
        self.assertEqual(placing_of(corner=(LARGE, -FAR), rows=["zy"]), told)

    def test_empty_rows_and_columns_around(self):
        told = (("a", (12, -18)), ("b", (11, -18)), ("z", (12, -17)))
        self.assertEqual(placing_of([".....", "..z..", ".ba..", ".....", "....."], (10, -20)), told)

    def test_pictures_come_back(self):
        for places in some_placings():
            frame = frame_of(body_under(places))
            self.assertEqual(placing_of(lettered(places), frame[:2]), places)
            self.assertEqual(placing_of(list(lettered(places)), frame[:2]), places)

    def test_no_rows(self):
        for rows in NO_ROWS:
            self.assert_error((BadText, 0, 0), placing_of, rows, (0, 0))
            self.assert_error((BadText, 0, 0), placing_of, rows, None)

    def test_bad_corners_come_next(self):
        for value in NO_CELLS:
            for rows in (["a"], ["A"], [""], ["."]):
                self.assert_error((BadCell, value), placing_of, rows, value)

    def assert_wrong(self, rows, line, column):
        self.assert_error((BadText, line, column), placing_of, rows, (0, 0))
        self.assert_error((BadText, line, column), placing_of, corner=(5, 5), rows=tuple(rows))

    def test_wrong_signs(self):
        for sign in ("A", "#", " ", "1", "-", "\n", "Z", "`", "{", "_", ","):
            self.assert_wrong([sign], 1, 1)
            self.assert_wrong([sign + "a"], 1, 1)
            self.assert_wrong(["ab" + sign], 1, 3)
            self.assert_wrong(["abc", ".." + sign], 2, 3)
            self.assert_wrong(["abc", "d" + sign + sign, sign], 2, 2)

    def test_a_letter_twice(self):
        self.assert_wrong(["aa"], 1, 2)
        self.assert_wrong(["ab.b"], 1, 4)
        self.assert_wrong(["ab", "cb"], 2, 2)
        self.assert_wrong(["ab", "a#"], 2, 1)
        self.assert_wrong(["ab", "cd", ".a"], 3, 2)
        self.assert_wrong(["aa", "b"], 1, 2)
        self.assertEqual(len(placing_of(["a...", "b...", "...."], (0, 0))), 2)

    def test_rows_of_other_lengths(self):
        self.assert_wrong(["ab", "c"], 2, 2)
        self.assert_wrong(["ab", ""], 2, 1)
        self.assert_wrong(["ab", "cde"], 2, 3)
        self.assert_wrong(["ab", "cd."], 2, 3)
        self.assert_wrong(["ab", "cd#"], 2, 3)
        self.assert_wrong(["ab", "cd", "e", "fgh"], 3, 2)
        self.assert_wrong(["ab", "cd", "efgh", "i"], 3, 3)

    def test_a_first_row_without_signs(self):
        self.assert_wrong([""], 1, 1)
        self.assert_wrong(["", ""], 1, 1)
        self.assert_wrong(["", "ab"], 1, 1)
        self.assert_wrong(["", "#"], 1, 1)

    def test_the_first_within_a_row(self):
        self.assert_wrong(["ab", "#"], 2, 1)
        self.assert_wrong(["abc", "a"], 2, 1)
        self.assert_wrong(["abc", "d#"], 2, 2)
        self.assert_wrong(["abc", "dd"], 2, 2)
        self.assert_wrong(["abc", "d.#e"], 2, 3)
        self.assert_wrong(["abc", "d.ea"], 2, 4)
        self.assert_wrong(["abc", "dea."], 2, 3)

    def test_no_placings(self):
        self.assert_error((BadBody, ()), placing_of, [".."], (0, 0))
        self.assert_error((BadBody, (("a", (2, 7)), ("b", (0, 7)))), placing_of, ["b.a"], (0, 7))
        self.assert_error((BadBody, (("a", (1, 0)), ("z", (0, 1)))), placing_of, ["z.", ".a"], (0, 0))


class FilmTest(Case):
    def test_no_moves(self):
        self.assertEqual(film(PLACES, ()), (lettered(PLACES),))
        self.assertEqual(film(plan=[], places=PLACES), (lettered(PLACES),))

    def test_one_frame(self):
        self.assertEqual(film(PLACES, (((2, 0), (1, 1)),)), (("b..", "acd"), ("bd.", "ac.")))
        places = placed(row(3), ["c", "b", "a"])
        told = film(places, crawl((0, 0), 3, 1))
        self.assertEqual(told, (("cba.", "...."), (".ba.", ".c.."), (".ba.", "..c."), (".bac", "....")))

    def test_many_films(self):
        for seed, places in enumerate(some_placings()):
            if len(places) > 1:
                plan = plan_for(body_under(places), 12, seed)
                stages = [named_behind(places, plan[:many]) for many in range(13)]
                cells = tuple(sorted({cell for stage in stages for _, cell in stage}))
                told = film(places, list(plan))
                self.assertEqual(told, tuple(plain_picture(stage, frame_of(cells)) for stage in stages))
                self.assertIs(type(told), tuple)

    def test_no_plans(self):
        plan = plan_for(body_under(PLACES), 4, 3)
        for pair in (((9, 9), (9, 8)), (None, None), ((0, 0), (0, 0))):
            for index in range(5):
                wrong = plan[:index] + (pair,) + plan[index:]
                self.assert_error((NotKept, "plan", index), film, PLACES, wrong)
                self.assert_error((NotKept, "plan", index), film, PLACES, list(wrong))

    def test_longer_names(self):
        places = placed(row(3, (LARGE, -FAR)), ["ax", "a1", "b"])
        self.assertEqual(film(places, ()), (("aab",),))

    def test_a_hundred_moves_of_twenty_six_names(self):
        places = placed(row(26), list(LETTERS))
        plan = plan_for(row(26), 100, 7)
        told = film(places, plan)
        self.assertEqual(len(told), 101)
        for rows in told:
            self.assertEqual("".join(sorted("".join(rows))).replace(".", ""), LETTERS)
        self.assertEqual(len(film(placed(moved(row(26), (FAR, 0)), list(LETTERS)), ())[0][0]), 26)
