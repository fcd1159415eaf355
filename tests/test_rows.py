"""Points [23] to [31]: from a body to a row."""

from tests.helper import NO_BODIES, NO_CELLS, NO_NUMBERS, Case, add, all_shapes, block, carved, cells_beside, drawn
from tests.helper import grown, image, many_bodies, path, plain_free, plain_parts, plain_regions, ring, rolled
from tests.helper import rolled_at_both_ends, rolled_twice, row, spiral

from slideinto.bodies import frame_of, free_squares, is_body, moved
from slideinto.borders import border, hung, region_at
from slideinto.errors import BadBody, BadCell, BadNumber, NotThere
from slideinto.plans import end_of, first_wrong, moved_plan
from slideinto.rows import Loosened, Rowed, bound_to_row, loosened, nook_of, outer_free, parts_without, plan_to_row
from slideinto.walks import walk

FAR = 10 ** 30
LARGE = 10 ** 5000


def column(many):
    return tuple((0, up) for up in range(many))


def comb(teeth, deep):
    return tuple(sorted(row(2 * teeth - 1) + tuple((2 * k, 1 + up) for k in range(teeth) for up in range(deep))))


def hanging_comb(teeth, deep):
    """A comb whose teeth hang down, so that its least square is not free at times."""
    return tuple(sorted((across, -up) for across, up in comb(teeth, deep)))


def bodies_rolled_in():
    """Bodies without an outer free square, in all eight positions, some with more squares within."""
    told = [image(body, way) for body in (rolled(), rolled_twice(), rolled_at_both_ends()) for way in range(8)]
    for seed in range(1, 40):
        body = rolled() if seed % 2 else rolled_twice()
        number = seed
        for _ in range(seed % 7):
            number = drawn(number)
            cells = [cell for cells in plain_regions(body)[1:] for cell in cells if cells_beside(cell) & set(body)]
            larger = tuple(sorted(body + (cells[(number >> 8) % len(cells)],))) if cells else body
            if not outer_free(larger):
                body = larger
        told.append(image(body, seed % 8))
    return told


def row_bodies():
    """Bodies of up to 40 squares for whole plans."""
    told = all_shapes(5) + [body for body in many_bodies()[300:] if len(body) <= 40]
    told += [carved(6, 6, 20 + seed % 6, seed) for seed in range(1, 30)]
    told += [image(body, way) for body in (comb(5, 5), spiral(40), rolled(), grown(40, 5)) for way in range(8)]
    return told + [column(40), row(40), block(5, 8), ring(11, 11)]


def plain_loosened(body):
    """The steps and moves of loosened, word by word."""
    steps, moves = (), ()
    while len(body) > 1 and not outer_free(body):
        numbers = [number for number, _ in hung(body)]
        sides = {square for number in numbers for _, square in border(body, number)}
        square = min(sides & set(free_squares(body)))
        rest = tuple(other for other in body if other != square)
        gap = dict(hung(rest))[region_at(rest, square)]
        cell = [place for place in gap[2:] if region_at(rest, place) == region_at(rest, square)][0]
        plan = walk(body, square, cell)
        steps, moves, body = steps + (("shut", square, cell),), moves + plan, end_of(body, plan)
    return steps, moves, body


def plain_nook(body):
    """The nook, word by word, for a body whose least square is not free."""
    least = body[0]
    parts = plain_parts(set(body) - {least})
    sides = border(body, 0)
    # The side to the west of the least square is the least side of all.
    for (cell, square), (after, other) in zip(sides, sides[1:]):
        if cell == after and least not in (square, other):
            if [part for part in parts if square in part] != [part for part in parts if other in part]:
                return cell
    raise AssertionError("no nook")


class Rower:
    """Steps to a row, word by word."""

    def __init__(self, body):
        self.steps, self.moves, self.body = plain_loosened(body)
        if len(body) > 1:
            guest = outer_free(self.body)[0]
            self.last = max(square for square in self.body if square != guest)
            self.walk(guest, add(self.last, (1, 0)))
            self.steps += (("guest", guest),)
            while self.core() != [self.last]:
                self.step()

    def walk(self, start, end):
        plan = walk(self.body, start, end)
        self.moves += plan
        self.body = end_of(self.body, plan)

    def tail(self):
        told = []
        while add(self.last, (len(told) + 1, 0)) in self.body:
            told.append(add(self.last, (len(told) + 1, 0)))
        return told

    def core(self):
        return sorted(set(self.body) - set(self.tail()))

    def step(self):
        core, end = self.core(), add(self.last, (len(self.tail()) + 1, 0))
        if {square[0] for square in core} == {self.last[0]}:
            square = core[-1] if core[-1] != self.last else core[0]
            self.walk(square, end)
            self.steps += (("tail", square),)
        elif core[0] in free_squares(self.body):
            self.walk(core[0], end)
            self.steps += (("tail", core[0]),)
        else:
            square, nook, left = core[0], plain_nook(self.body), self.tail()[-1]
            self.walk(left, nook)
            self.walk(square, left)
            self.steps += (("nook", square, nook),)


class OuterFreeTest(Case):
    def test_told_bodies(self):
        self.assertEqual(outer_free(((4, 4),)), ())
        self.assertEqual(outer_free(row(2)), row(2))
        self.assertEqual(outer_free(row(5)), ((0, 0), (4, 0)))
        self.assertEqual(outer_free(body=block(3, 3)), tuple(square for square in block(3, 3) if square != (1, 1)))
        self.assertEqual(outer_free(rolled()), ())

    def test_free_squares_within_that_have_no_side_of_the_outside(self):
        body = tuple(sorted(ring(5, 5) + ((1, 2),)))
        self.assertIn((1, 2), free_squares(body))
        self.assertNotIn((1, 2), outer_free(body))
        # The square (0, 2) has a side of the outside, but without it (1, 2) would lie alone.
        self.assertEqual(outer_free(body), tuple(square for square in ring(5, 5) if square != (0, 2)))

    def test_just_the_free_squares_of_the_outer_border(self):
        for body in many_bodies() + row_bodies() + bodies_rolled_in():
            outside = plain_regions(body)[0]
            told = tuple(square for square in plain_free(body) if cells_beside(square) & set(outside))
            self.assertEqual(outer_free(body), told)

    def test_no_body(self):
        for value in NO_BODIES:
            for call in (outer_free, loosened, nook_of, plan_to_row):
                self.assert_error((BadBody, value), call, value)


class PartsWithoutTest(Case):
    def test_free_and_cut_squares(self):
        self.assertEqual(parts_without(row(3), (0, 0)), (((1, 0), (2, 0)),))
        self.assertEqual(parts_without(square=(1, 0), body=row(3)), (((0, 0),), ((2, 0),)))
        cross = ((-1, 0), (0, -1), (0, 0), (0, 1), (1, 0))
        self.assertEqual(parts_without(cross, (0, 0)), (((-1, 0),), ((0, -1),), ((0, 1),), ((1, 0),)))

    def test_a_body_of_one(self):
        self.assertEqual(parts_without(((2, 3),), (2, 3)), ())

    def test_against_the_plain_parts(self):
        for body in all_shapes(5) + [carved(6, 5, 18, 4), spiral(30)]:
            for square in body:
                parts = plain_parts(set(body) - {square})
                self.assertEqual(parts_without(body, square), tuple(sorted(tuple(sorted(part)) for part in parts)))

    def test_errors_in_their_order(self):
        for value in NO_CELLS:
            self.assert_error((BadCell, value), parts_without, row(3), value)
            for other in NO_BODIES:
                self.assert_error((BadBody, other), parts_without, other, value)
        for value in NO_BODIES:
            self.assert_error((BadBody, value), parts_without, value, (9, 9))
            self.assert_error((BadBody, value), parts_without, value, (0, 0))
        for cell in ((3, 0), (-1, 0), (FAR, -LARGE)):
            self.assert_error((NotThere, cell), parts_without, row(3), cell)


class LoosenedTest(Case):
    def assert_loosened(self, body, steps, moves, behind):
        told = loosened(body)
        self.assertIsInstance(told, Loosened)
        self.assertEqual((told.steps, told.moves, told.body), (steps, moves, behind))
        for value in (told.steps, told.moves, told.body):
            self.assertIs(type(value), tuple)

    def test_no_steps(self):
        for body in all_shapes(5) + [ring(4, 4), spiral(40), block(4, 4), ((FAR, 0),)]:
            self.assert_loosened(body, (), (), body)

    def test_one_step(self):
        body = rolled()
        behind = tuple(sorted(set(body) - {(0, 2)} | {(1, 1)}))
        self.assert_loosened(body, (("shut", (0, 2), (1, 1)),), (((0, 2), (1, 1)),), behind)
        by = (-FAR, LARGE)
        told = loosened(moved(body, by))
        self.assertEqual(told.steps, (("shut", add((0, 2), by), add((1, 1), by)),))
        self.assertEqual((told.moves, told.body), (moved_plan((((0, 2), (1, 1)),), by), moved(behind, by)))

    def test_two_steps(self):
        told = loosened(body=rolled_twice())
        self.assertEqual(told.steps, (("shut", (1, 7), (0, 5)), ("shut", (-1, 4), (1, 1))))
        self.assertEqual(told.moves[:2], (((1, 7), (0, 6)), ((0, 6), (0, 5))))
        self.assertTrue(outer_free(told.body))

    def test_word_by_word(self):
        counts = {}
        for body in bodies_rolled_in() + row_bodies():
            steps, moves, behind = plain_loosened(body)
            self.assert_loosened(body, steps, moves, behind)
            counts[len(steps)] = counts.get(len(steps), 0) + 1
        self.assertGreater(counts[1], 10)
        self.assertGreater(counts[2], 5)

    def test_created_by_place_and_by_name(self):
        told = Loosened(1, 2, 3)
        self.assertEqual((told.steps, told.moves, told.body), (1, 2, 3))
        told = Loosened(body=1, moves=2, steps=3)
        self.assertEqual((told.steps, told.moves, told.body), (3, 2, 1))


class NookTest(Case):
    def test_none(self):
        self.assertIsNone(nook_of(((3, 3),)))
        for body in (row(2), column(2), row(9), column(9), block(3, 3), ring(4, 4), ((0, 0), (0, 1), (1, 1))):
            self.assertIsNone(nook_of(body))

    def test_told_cells(self):
        self.assertEqual(nook_of(((0, 0), (0, 1), (1, 0))), (1, 1))
        self.assertEqual(nook_of(body=path((0, 2), "SSEE")), (1, 1))
        # The walls lie across from each other only further on.
        body = tuple(sorted(set(path((0, 3), "SSSEEENN"))))
        self.assertEqual(nook_of(body), (1, 1))
        body = path((2, 2), "NWWSSSEEEENNN")
        self.assertEqual(body[0], (0, 0))
        self.assertEqual(nook_of(body), plain_nook(body))

    def test_against_the_words(self):
        nooks = 0
        for body in all_shapes(7) + row_bodies() + bodies_rolled_in():
            if len(body) == 1 or body[0] in plain_free(body):
                self.assertIsNone(nook_of(body))
            else:
                self.assertEqual(nook_of(body), plain_nook(body))
                nooks += 1
        self.assertGreater(nooks, 100)


class PlanToRowTest(Case):
    def assert_rowed(self, body, steps, behind):
        told = plan_to_row(body)
        self.assertIsInstance(told, Rowed)
        self.assertEqual((told.steps, told.row), (steps, behind))
        self.assertEqual(end_of(body, told.moves), behind)

    def test_one_square(self):
        told = plan_to_row(((7, -FAR),))
        self.assertEqual((told.steps, told.moves, told.row), ((), (), ((7, -FAR),)))

    def test_two_squares(self):
        told = plan_to_row(body=row(2))
        self.assertEqual((told.steps, told.row), ((("guest", (0, 0)),), ((1, 0), (2, 0))))
        self.assertEqual(told.moves, (((0, 0), (1, -1)), ((1, -1), (2, 0))))
        told = plan_to_row(column(2))
        self.assertEqual((told.steps, told.row), ((("guest", (0, 0)),), ((0, 1), (1, 1))))
        self.assertEqual(told.moves, (((0, 0), (1, 1)),))

    def test_rows(self):
        self.assert_rowed(
            row(4),
            (("guest", (0, 0)), ("tail", (1, 0)), ("tail", (2, 0))),
            ((3, 0), (4, 0), (5, 0), (6, 0)),
        )

    def test_columns(self):
        self.assert_rowed(
            column(4),
            (("guest", (0, 0)), ("tail", (0, 1)), ("tail", (0, 2))),
            ((0, 3), (1, 3), (2, 3), (3, 3)),
        )

    def test_the_guest_is_there_already(self):
        body = tuple(sorted(rolled() + ((5, 4),)))
        self.assertEqual(outer_free(body), ((5, 4),))
        told = plan_to_row(body)
        self.assertEqual(told.steps[0], ("guest", (5, 4)))
        self.assertEqual(told.steps[1][0], "nook")
        first = walk(body, (5, 4), told.steps[1][2])
        self.assertEqual(told.moves[:len(first)], first)

    def test_a_nook(self):
        # The corner of a hook is the least square, and not free.
        body = ((0, 0), (0, 1), (0, 2), (1, 0), (2, 0))
        told = plan_to_row(body)
        self.assertEqual(told.steps[:2], (("guest", (0, 2)), ("nook", (0, 0), (1, 1))))
        self.assertEqual(told.moves[:2], walk(body, (0, 2), (3, 0))[:2])
        self.assert_rowed(body, told.steps, ((2, 0), (3, 0), (4, 0), (5, 0), (6, 0)))

    def test_the_column_of_the_last_square(self):
        # A nook above the last square comes to be the greatest square of the core.
        found = 0
        for body in all_shapes(7):
            rower = Rower(body)
            cells = [step[2] for step in rower.steps if step[0] == "nook"]
            found += sum(cell > rower.last for cell in cells) if len(body) > 1 else 0
        self.assertGreater(found, 0)

    def test_word_by_word(self):
        kinds = {"shut": 0, "guest": 0, "tail": 0, "nook": 0}
        for body in all_shapes(6) + row_bodies() + [body for body in bodies_rolled_in() if len(body) <= 40]:
            rower = Rower(body)
            told = plan_to_row(body)
            self.assertEqual(told.steps, rower.steps)
            self.assertEqual(told.moves, rower.moves)
            self.assertEqual(told.row, rower.body)
            for step in told.steps:
                kinds[step[0]] += 1
        self.assertGreater(min(kinds.values()), 10)

    def test_far_away(self):
        by = (LARGE, -FAR)
        for body in (comb(3, 3), spiral(20), rolled()):
            told, other = plan_to_row(body), plan_to_row(moved(body, by))
            self.assertEqual(other.moves, moved_plan(told.moves, by))
            self.assertEqual(other.row, moved(told.row, by))

    def test_what_is_told_is_plain(self):
        told = plan_to_row(comb(3, 3))
        self.assertEqual([type(value) for value in (told.steps, told.moves, told.row)], [tuple] * 3)
        self.assertEqual({type(step) for step in told.steps + told.moves}, {tuple})

    def test_created_by_place_and_by_name(self):
        told = Rowed(1, 2, 3)
        self.assertEqual((told.steps, told.moves, told.row), (1, 2, 3))
        told = Rowed(row=1, moves=2, steps=3)
        self.assertEqual((told.steps, told.moves, told.row), (3, 2, 1))


class BoundTest(Case):
    def test_numbers(self):
        self.assertEqual(bound_to_row(1, 1, 1), 1)
        self.assertEqual(bound_to_row(2, 2, 1), 2 * (1 + 0 + 2 * 1 * 2))
        self.assertEqual(bound_to_row(5, 3, 4), 5 * (1 + 7 + 2 * 4 * 12))
        self.assertEqual(bound_to_row(high=4, many=5, wide=3), bound_to_row(5, 3, 4))
        self.assertEqual(bound_to_row(9, 1, 2), 9 * (1 - 7 + 2 * 8 * 2))

    def test_large_numbers(self):
        for many, wide, high in ((FAR, FAR, FAR), (LARGE, 1, 7), (40, LARGE, FAR)):
            told = many * (1 + (wide * high - many) + 2 * (many - 1) * wide * high)
            self.assertEqual(bound_to_row(many, wide, high), told)

    def test_errors_in_their_order(self):
        for value in NO_NUMBERS + (0, -1, -LARGE):
            for other in (1, 0, None, True):
                self.assert_error((BadNumber, "many", value), bound_to_row, value, other, other)
                self.assert_error((BadNumber, "wide", value), bound_to_row, 5, value, other)
            self.assert_error((BadNumber, "high", value), bound_to_row, 5, 5, value)


class FactsTest(Case):
    def test_each_step_makes_fewer_regions_hang(self):
        for body in bodies_rolled_in():
            told = loosened(body)
            place, done_moves = body, 0
            for _, start, end in told.steps:
                before = len(hung(place))
                plan = walk(place, start, end)
                self.assertEqual(told.moves[done_moves:done_moves + len(plan)], plan)
                done_moves += len(plan)
                place = end_of(place, plan)
                self.assertLess(len(hung(place)), before)
                west, south, east, north = frame_of(body)
                self.assertTrue(west <= end[0] <= east and south <= end[1] <= north)
            self.assertEqual((done_moves, place), (len(told.moves), told.body))
            self.assertTrue(outer_free(told.body))

    def test_nooks_lie_in_the_frame(self):
        for body in all_shapes(6) + row_bodies():
            nook = nook_of(body)
            if nook is not None:
                west, south, east, north = frame_of(body)
                self.assertTrue(west <= nook[0] <= east and south <= nook[1] <= north)
                self.assertGreater(nook, body[0])
                self.assertEqual(parts_without(body, body[0]), tuple(sorted(
                    tuple(sorted(part)) for part in plain_parts(body[1:])
                )))
                self.assertEqual(len(plain_parts(body[1:] + (nook,))), 1)

    def test_a_plan_that_ends_with_the_row(self):
        for body in all_shapes(6) + row_bodies() + [body for body in bodies_rolled_in() if len(body) <= 40]:
            told = plan_to_row(body)
            self.assertIsNone(first_wrong(body, told.moves))
            self.assertEqual(end_of(body, told.moves), told.row)
            self.assertEqual(told.row, row(len(body), told.row[0]))
            if len(body) > 1:
                west, south, east, north = frame_of(body)
                wide, high = east - west + 1, north - south + 1
                self.assertLessEqual(len(told.moves), bound_to_row(len(body), wide, high))
                self.assertLessEqual(len(told.steps), (len(body) - 1) * wide * high + len(loosened(body).steps) + 1)
                self.assertIn(told.row[0], body)


class LimitsTest(Case):
    def test_forty_squares(self):
        bodies = [comb(7, 4)[:40], hanging_comb(5, 6), comb(2, 18), hanging_comb(2, 18), spiral(40), grown(40, 77)]
        for body in bodies:
            for way in range(8):
                turned = image(body, way)
                if is_body(turned):
                    told = plan_to_row(turned)
                    self.assertEqual(end_of(turned, told.moves), told.row)

    def test_ninety_squares(self):
        bodies = [spiral(90), ring(24, 23), block(9, 10), grown(90, 4), carved(12, 12, 90, 6), carved(14, 11, 85, 2)]
        for body in bodies:
            told = loosened(body)
            self.assertEqual(end_of(body, told.moves), told.body)
            self.assertTrue(outer_free(told.body))
