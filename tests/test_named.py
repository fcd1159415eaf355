"""Points [75] to [83]: squares with names."""

import itertools

from tests.helper import NO_BODIES, NO_CELLS, NO_NUMBERS, Case, all_shapes, block, carved, drawn, drawn_plan, grown
from tests.helper import image, many_bodies, ring, rolled, row, spiral

from slideinto.bodies import body_of, frame_of, moved
from slideinto.errors import BadBody, BadCell, BadName, BadNumber, NotKept, TakenName
from slideinto.joining import bound_between, column_at, crawl, plan_between, row_at, row_plan
from slideinto.moves import done, moves_of
from slideinto.named import body_under, bound_named, can_become, held_row, is_placing, named_behind, order_behind
from slideinto.named import order_of, placed, plan_named, sorting, turned_row
from slideinto.plans import back, bodies_of, end_of, first_wrong
from slideinto.rows import bound_to_row, plan_to_row
from slideinto.walks import walk

FAR = 10 ** 30
LARGE = 10 ** 5000

NO_NAMES = (
    "", "A", "aB", "1a", "a" * 13, "a b", "a-b", "a\n", " a", "a_b", "-a", None, 0, True, b"a", ["a"], ("a",), {}, 1.5,
)

PLACES = (("a", (0, 0)), ("b", (0, 1)), ("c", (1, 0)), ("d1", (2, 0)))
GOALS = (("a", (5, 5)), ("b", (5, 4)), ("c", (5, 6)), ("d1", (5, 7)))

NO_PLACINGS = (
    None, 0, "ab", (), [], {}, list(PLACES), ((0, 0),), (("a", (0, 0)), None), PLACES[::-1], PLACES[1:2] + PLACES[:1],
    (("a", (0, 0)), ("a", (0, 1))), (("a", (0, 0)), ("b", (0, 0))), (("a", (0, 0)), ("a", (0, 0))),
    (("a", (0, 0)), ("b", (2, 0))), (("a", (0, 0)), ("b", (1, 1))), (["a", (0, 0)],), (("a", [0, 0]),),
    (("a", (0, True)),), (("a", (0, 0, 0)),), (("a", (0, 0), 1),), (("a",),), ("a", (0, 0)), ("ab",),
    ((None, (0, 0)),), (((0, 0), "a"),), PLACES + (("e", (9, 9)),), PLACES + (("d0", (3, 0)),), (("a", None),),
    ((("a",), (0, 0)),), row(2), 1.5,
) + tuple(((name, (0, 0)),) for name in NO_NAMES)


def names_for(many, seed):
    """So many unlike names in an order that looks as if it came by chance."""
    left = [word + end for word in "abcdefghijkl" for end in ("", "7", "x2")][:many]
    names = []
    number = seed
    while left:
        number = drawn(number)
        names.append(left.pop((number >> 8) % len(left)))
    return names


def placing(body, seed):
    return tuple(sorted(zip(names_for(len(body), seed), body)))


def plan_for(body, many, seed):
    return drawn_plan(body, many, seed, moves_of, done)


def plain_behind(places, plan):
    cells = dict(places)
    for start, end in plan:
        name, = [name for name in cells if cells[name] == start]
        cells[name] = end
    return tuple(sorted(cells.items()))


def plain_turned(order):
    return order[1:] + order[:1]


def plain_held(order):
    return order[:1] + order[2:] + order[1:2]


def plain_sorting(order, wished):
    order, wished, steps = tuple(order), list(wished), []
    for turn in range(len(order) - 1):
        for k in range(len(order)):
            if k == len(order) - 1 or wished.index(order[0]) < wished.index(order[1]):
                steps.append("turn")
                order = plain_turned(order)
            else:
                steps.append("hold")
                order = plain_held(order)
    return tuple(steps)


def plain_plan(places, goals):
    n = len(places)
    if places == goals:
        return ()
    body, other = (tuple(sorted(cell for _, cell in told)) for told in (places, goals))
    if n == 2:
        return plan_between(body, other)
    start, goal = plan_to_row(body), plan_to_row(other)
    d, s = goal.row[0]
    first = (d - n * (n - 1), s)
    plan = start.moves + row_plan(start.row[0], first, n)
    order = [name for name, cell in sorted(plain_behind(places, plan), key=lambda pair: pair[1])]
    wished = [name for name, cell in sorted(plain_behind(goals, goal.moves), key=lambda pair: pair[1])]
    for step in plain_sorting(order, wished):
        plan += turned_row(first, n) if step == "turn" else held_row(first, n)
        first = (first[0] + 1, first[1])
    return plan + back(goal.moves)


def extent(cells):
    west, south, east, north = frame_of(body_of(cells)) if len(cells) == 1 else frame_of(tuple(sorted(set(cells))))
    return east - west + 1, north - south + 1


def colour(cell):
    return (cell[0] + cell[1]) % 2


class PlacingTest(Case):
    def test_is_placing(self):
        for value in (PLACES, GOALS, (("a", (0, 0)),), (("a" * 12, (LARGE, -FAR)),), (("a", (1, 0)), ("a0", (0, 0)))):
            self.assertIs(is_placing(value), True)
        for value in NO_PLACINGS:
            self.assertIs(is_placing(value), False, value)
        self.assertIs(is_placing(value=PLACES), True)

    def test_changed_placings(self):
        for body in all_shapes(4):
            places = placing(body, 3)
            self.assertIs(is_placing(places), True)
            for i, j in itertools.permutations(range(len(places)), 2):
                changed = list(places)
                changed[i], changed[j] = changed[j], changed[i]
                self.assertIs(is_placing(tuple(changed)), False)
                changed = list(places)
                changed[i] = (places[j][0], places[i][1])
                self.assertIs(is_placing(tuple(changed)), False)
                changed[i] = (places[i][0], places[j][1])
                self.assertIs(is_placing(tuple(changed)), False)
                self.assertIs(is_placing(tuple(sorted(places + ((places[i][0], (50, 50)),)))), False)

    def test_body_under(self):
        self.assertEqual(body_under(PLACES), ((0, 0), (0, 1), (1, 0), (2, 0)))
        self.assertEqual(body_under(places=GOALS), column_at((5, 4), 4))
        for body in many_bodies():
            if len(body) < 20:
                self.assertEqual(body_under(placing(body, 5)), body)

    def test_placed(self):
        self.assertEqual(placed(body_under(PLACES), ["a", "b", "c", "d1"]), PLACES)
        self.assertEqual(placed(names=("z", "b2"), body=row(2)), (("b2", (1, 0)), ("z", (0, 0))))
        for body in many_bodies():
            if len(body) < 20:
                names = names_for(len(body), len(body))
                self.assertEqual(placed(body, names), tuple(sorted(zip(names, body))))

    def test_errors_of_placed_in_their_order(self):
        for value in NO_BODIES:
            for names in ([], ["A"], ["a", "a"], ["a"]):
                self.assert_error((BadBody, value), placed, value, names)
        for value in NO_NAMES:
            self.assert_error((BadName, value), placed, row(3), ["a", "b", value])
            self.assert_error((BadName, value), placed, row(3), ("a", "a", value, "B"))
            self.assert_error((BadName, value), placed, row(3), [value])
        self.assert_error((TakenName, "b"), placed, row(3), ["a", "b", "b"])
        self.assert_error((TakenName, "b"), placed, row(3), ["a", "b", "c", "b", "a"])
        for names in ([], ["a"], ["a", "b"], ("a", "b", "c", "d")):
            self.assert_error((BadNumber, "names", len(names)), placed, row(3), names)

    def test_no_placings(self):
        for value in NO_PLACINGS:
            self.assert_error((BadBody, value), body_under, value)
            self.assert_error((BadBody, value), order_of, value)
            self.assert_error((BadBody, value), named_behind, value, [])
            self.assert_error((BadBody, value), named_behind, value, [None])
            for call in (can_become, plan_named, bound_named):
                self.assert_error((BadBody, value), call, value, GOALS)
                self.assert_error((BadBody, value), call, value, None)
                self.assert_error((BadBody, value), call, PLACES, value)
                self.assert_error((BadBody, value), call, goals=[], places=value)


class BehindTest(Case):
    def test_along_plans(self):
        self.assertEqual(named_behind(PLACES, ()), PLACES)
        self.assertEqual(named_behind(plan=[((2, 0), (1, 1))], places=PLACES)[3], ("d1", (1, 1)))
        for seed, body in enumerate(many_bodies()):
            if 1 < len(body) < 20:
                places = placing(body, seed)
                plan = plan_for(body, 15, seed + 1)
                for many in (1, 7, 15):
                    told = named_behind(places, plan[:many])
                    self.assertEqual(told, plain_behind(places, plan[:many]))
                    self.assertEqual(told, named_behind(places, list(plan[:many])))
                    self.assertIs(is_placing(told), True)
                self.assertEqual(named_behind(named_behind(places, plan), back(plan)), places)

    def test_no_plans(self):
        body = body_under(PLACES)
        plan = plan_for(body, 5, 3)
        for pair in (((9, 9), (9, 8)), (None, None), (None, (1, 1)), ((0, 0), (0, 0))):
            for index in range(6):
                wrong = plan[:index] + (pair,) + plan[index:]
                self.assertEqual(first_wrong(body, wrong), index)
                self.assert_error((NotKept, "plan", index), named_behind, PLACES, wrong)
                self.assert_error((NotKept, "plan", index), named_behind, PLACES, list(wrong))

    def test_order_of(self):
        self.assertEqual(order_of((("a", (7, -3)),)), ("a",))
        self.assertEqual(order_of((("a", (2, 5)), ("b", (1, 5)), ("c", (3, 5)))), ("b", "a", "c"))
        self.assertEqual(order_of(places=(("a", (LARGE + 1, 0)), ("b", (LARGE, 0)))), ("b", "a"))
        for body in all_shapes(5):
            names = names_for(len(body), 8)
            told = tuple(names) if body == row(len(body)) else None
            self.assertEqual(order_of(placed(body, names)), told)


class RowsTest(Case):
    def test_turned_and_held_rows(self):
        for n in (3, 4, 5, 8, 12):
            for c, r in ((0, 0), (-7, 3)):
                body = row_at((c, r), n)
                plan = turned_row((c, r), n)
                self.assertEqual(plan, crawl((c, r), n, 1))
                names = tuple(names_for(n, 5))
                behind = named_behind(placed(body, names), plan)
                self.assertEqual(order_of(behind), plain_turned(names))
                self.assertEqual(body_under(behind), row_at((c + 1, r), n))
                plan = held_row((c, r), n)
                self.assertEqual(plan, self.plain_held_row(c, r, n))
                behind = named_behind(placed(body, names), plan)
                self.assertEqual(order_of(behind), plain_held(names))
                self.assertEqual(body_under(behind), row_at((c + 1, r), n))

    def plain_held_row(self, c, r, n):
        body, plan = row_at((c, r), n), ()
        walks = [((c, r), (c + n - 1, r + 1)), ((c + 1, r), (c + n, r)), ((c + n - 1, r + 1), (c + 1, r))]
        for start, end in walks:
            moves = walk(body, start, end)
            plan, body = plan + moves, end_of(body, moves)
        return plan

    def test_far_away(self):
        self.assertEqual(turned_row((LARGE, -FAR), 3), crawl((LARGE, -FAR), 3, 1))
        self.assertEqual(len(held_row(n=5, first=(LARGE, -FAR))), len(held_row((0, 0), 5)))
        self.assertEqual(turned_row(n=4, first=(1, 2)), turned_row((1, 2), 4))

    def test_errors_in_their_order(self):
        for call in (turned_row, held_row):
            for value in NO_CELLS:
                self.assert_error((BadCell, value), call, value, 3)
                self.assert_error((BadCell, value), call, value, 2)
            for value in NO_NUMBERS + (2, 1, 0, -1, -LARGE):
                self.assert_error((BadNumber, "n", value), call, (0, 0), value)


NO_ORDERS = (
    None, 0, "abc", "", {}, (), [], ("a",), ("a", "b"), ["a", "b"], ("a", "b", "a"), ("a", "b", "B"), ("a", "b", None),
    ("a", "b", ["c"]), ("a", "b", "c", "c"), ("a", "b", "1"), ("a", "b", ""), {"a": 1, "b": 2, "c": 3}, (1, 2, 3),
)


class SortingTest(Case):
    def test_a_pass(self):
        self.assertEqual(sorting(("a", "b", "c"), ("a", "b", "c")), ("turn", "turn", "turn") * 2)
        self.assertEqual(sorting(["c", "b", "a"], ["a", "b", "c"]), ("hold", "hold", "turn", "hold", "turn", "turn"))
        self.assertEqual(sorting(wished=("b", "a", "c"), order=("a", "b", "c")), ("hold",) + ("turn",) * 5)

    def test_all_orders_of_a_few_names(self):
        for n in (3, 4, 5):
            names = names_for(n, 5)
            for order in itertools.permutations(names):
                steps = sorting(order, names)
                self.assertEqual(steps, plain_sorting(order, names))
                self.assertEqual(len(steps), n * (n - 1))
                self.assertEqual(order_behind(order, steps), tuple(names))

    def test_longer_orders(self):
        for n in (8, 12, 24):
            for seed in range(5):
                wished = names_for(n, seed)
                for order in (names_for(n, seed + 9), wished, wished[::-1], sorted(wished)):
                    steps = sorting(list(order), tuple(wished))
                    self.assertEqual(steps, plain_sorting(order, wished))
                    self.assertEqual(order_behind(order, steps), tuple(wished))

    def test_order_behind(self):
        self.assertEqual(order_behind(("a", "b", "c"), ()), ("a", "b", "c"))
        self.assertEqual(order_behind(["a", "b", "c", "d"], ["turn"]), ("b", "c", "d", "a"))
        self.assertEqual(order_behind(steps=("hold",), order=("a", "b", "c", "d")), ("a", "c", "d", "b"))
        self.assertEqual(order_behind(("a", "b", "c", "d"), ("hold", "turn", "hold")), ("c", "b", "a", "d"))

    def test_no_orders(self):
        for value in NO_ORDERS:
            for wished in (("a", "b", "c"), None):
                self.assert_error((BadNumber, "order", value), sorting, value, wished)
            for steps in ((), None):
                self.assert_error((BadNumber, "order", value), order_behind, value, steps)
            self.assert_error((BadNumber, "wished", value), sorting, ("a", "b", "c"), value)
        for wished in (("a", "b", "d"), ("a", "b", "c", "d"), ["d", "b", "a"]):
            self.assert_error((BadNumber, "wished", wished), sorting, ["a", "b", "c"], wished)

    def test_no_steps(self):
        for steps in (None, "turn", "", 0, {}, ["turn", "Turn"], ("stop",), (None,), [["turn"]], ("turn", ""),
            ("turnhold",)):
            self.assert_error((BadNumber, "steps", steps), order_behind, ("a", "b", "c"), steps)

    def test_what_is_passed_stays_as_it_is(self):
        order, wished, steps = ["c", "a", "b"], ["a", "b", "c"], ["turn", "hold"]
        sorting(order, wished)
        order_behind(order, steps)
        self.assertEqual((order, wished, steps), (["c", "a", "b"], ["a", "b", "c"], ["turn", "hold"]))


class PlanTest(Case):
    def assert_plan(self, places, goals):
        plan = plan_named(places, goals)
        self.assertEqual(plan, plain_plan(places, goals))
        self.assertIs(type(plan), tuple)
        self.assertIs(can_become(places, goals), True)
        self.assertEqual(named_behind(places, plan), goals)
        self.assertLessEqual(len(plan), bound_named(places, goals))
        self.assertEqual(bound_named(places, goals), self.plain_bound(places, goals))

    def plain_bound(self, places, goals):
        n = len(places)
        if places == goals:
            return 0
        body, other = body_under(places), body_under(goals)
        if n == 2:
            return bound_between(body, other)
        w, h = extent(body + other)
        bounds = bound_to_row(n, *extent(body)) + bound_to_row(n, *extent(other))
        return bounds + n * (3 * n + w + h + n * (n - 1)) + 3 * n * n * (n - 1)

    def assert_error_of_all(self, error, places, goals):
        for call in (plan_named, bound_named):
            self.assert_error(error, call, places, goals)
            self.assert_error(error, call, goals=goals, places=places)
        if error[0] is BadBody:
            self.assert_error(error, can_become, places, goals)
        else:
            self.assertIs(can_become(places, goals), False)
            self.assertIs(can_become(goals=goals, places=places), False)

    def test_the_same_placing(self):
        for body in all_shapes(4):
            self.assert_plan(placing(body, 4), placing(body, 4))
            self.assertEqual(plan_named(goals=placing(body, 4), places=placing(body, 4)), ())

    def test_one_square(self):
        self.assert_plan((("a", (3, -3)),), (("a", (3, -3)),))
        self.assert_error_of_all((NotKept, "place", "a"), (("a", (3, -3)),), (("a", (3, -2)),))
        self.assert_error_of_all((NotKept, "place", "z9"), (("z9", (0, 0)),), (("z9", (LARGE, 0)),))

    def test_two_squares(self):
        told = {True: 0, False: 0}
        places = (("a", (0, 0)), ("b", (1, 0)))
        for column, up, side in itertools.product(range(-2, 3), range(-2, 3), ((1, 0), (-1, 0), (0, 1), (0, -1))):
            goals = (("a", (column, up)), ("b", (column + side[0], up + side[1])))
            right = colour((column, up)) == 0
            told[right] += 1
            if right:
                self.assert_plan(places, goals)
            else:
                self.assert_error_of_all((NotKept, "colour", "a"), places, goals)
        self.assertEqual(min(told.values()), 48)
        self.assert_error_of_all((NotKept, "colour", "x"), (("x", (1, 0)), ("y", (0, 0))),
            (("x", (0, 0)), ("y", (1, 0))))

    def test_no_plan_brings_two_squares_to_other_colours(self):
        places = (("a", (0, 0)), ("b", (1, 0)))
        met = {places}
        ahead = [places]
        while ahead:
            now = ahead.pop()
            for move in moves_of(body_under(now)):
                after = named_behind(now, [move])
                if after not in met and all(abs(part) < 5 for _, cell in after for part in cell):
                    met.add(after)
                    ahead.append(after)
        self.assertGreater(len(met), 100)
        for goals in met:
            self.assertEqual([colour(cell) for _, cell in goals], [0, 1])

    def test_other_names(self):
        for goals in (GOALS[:3], GOALS[:3] + (("d2", (5, 7)),), GOALS + (("e", (5, 8)),)):
            self.assert_error_of_all((BadBody, goals), PLACES, goals)
        self.assert_error_of_all((BadBody, (("b", (0, 0)),)), (("a", (0, 0)),), (("b", (0, 0)),))
        goals = (("a", (0, 1)), ("c", (0, 0)))
        self.assert_error_of_all((BadBody, goals), (("a", (0, 0)), ("b", (0, 1))), goals)

    def test_three_squares_and_more(self):
        self.assert_plan(PLACES, GOALS)
        self.assertEqual(plan_named(goals=GOALS, places=PLACES), plan_named(PLACES, GOALS))
        for by in ((0, 0), (1, 1), (9, -4), (-20, 3)):
            bodies = [body for body in all_shapes(4) if len(body) > 2]
            for seed, body in enumerate(bodies):
                for other in bodies:
                    if len(body) == len(other):
                        self.assert_plan(placing(body, seed), placing(moved(other, by), seed + 7))

    def test_other_names_on_the_same_body(self):
        for body in [body for body in all_shapes(5) if len(body) > 2] + [ring(3, 3)]:
            self.assert_plan(placing(body, 1), placing(body, 2))
        for names in itertools.permutations("abc"):
            self.assert_plan(placed(row(3), "abc"), placed(row(3), names))

    def test_bodies_that_lie_across_each_other(self):
        for seed in range(1, 9):
            body, other = carved(5, 5, 12, seed), image(grown(12, seed), seed % 8)
            self.assert_plan(placing(body, seed), placing(other, seed + 1))

    def test_twelve_names(self):
        others = [moved(ring(4, 4), (50, -60)), column_at((3, 3), 12), row(12)]
        for body, other in zip((spiral(12), row(12), block(3, 4)), others):
            self.assert_plan(placing(body, 3), placing(other, 4))
        more = rolled()
        self.assert_plan(placing(more, 3), placing(moved(more, (5, 5)), 9))

    def test_plans_hang_together(self):
        places, goals = placing(ring(3, 3), 2), placing(moved(block(4, 2), (3, 3)), 5)
        for body in bodies_of(body_under(places), plan_named(places, goals)):
            self.assertEqual(body_of(body), body)

    def test_what_is_told_is_plain(self):
        for told in (placed(row(3), ["c", "b", "a"]), named_behind(PLACES, []),
            named_behind(PLACES, [((2, 0), (1, 1))])):
            self.assertEqual({type(pair) for pair in told} | {type(cell) for _, cell in told}, {tuple})
            self.assertEqual({type(name) for name, _ in told}, {str})
