"""Points [19] to [22]: walks."""

from tests.helper import NO_BODIES, NO_CELLS, Case, add, all_shapes, block, carved, frame_around, grown
from tests.helper import large_bodies, many_bodies, plain_free, plain_parts, ring, rolled, rolled_twice, row, spiral

from slideinto.bodies import free_squares, moved
from slideinto.borders import border, hung, region_at
from slideinto.errors import BadBody, BadCell
from slideinto.plans import back, end_of, first_wrong, moved_plan
from slideinto.walks import reach, walk, walk_length

FAR = 10 ** 30
LARGE = 10 ** 5000

STEPS = [(across, up) for across in (-1, 0, 1) for up in (-1, 0, 1) if (across, up) != (0, 0)]


def goes(rest, start, end):
    """Whether a square slides or turns from start to end while the rest stays."""
    if end in rest:
        return False
    across, up = end[0] - start[0], end[1] - start[1]
    if 0 in (across, up):
        sides = ((up, across), (-up, -across))
        return any(add(start, side) in rest and add(end, side) in rest for side in sides)
    return len({(start[0], end[1]), (end[0], start[1])} & rest) == 1


def plain_walks(body, start):
    """The least of the shortest plans to each cell, one layer behind the other."""
    rest = set(body) - {start}
    plans = {start: ()}
    layer = [start] if len(plain_parts(rest)) == 1 else []
    while layer:
        found = {}
        for cell in layer:
            for step in STEPS:
                near = add(cell, step)
                if near not in plans and goes(rest, cell, near):
                    found.setdefault(near, []).append(plans[cell] + ((cell, near),))
        layer = list(found)
        plans.update((cell, min(found[cell])) for cell in found)
    return plans


def bodies_with_regions():
    carvings = [carved(6, 6, 22 + seed % 6, seed) for seed in range(1, 16)]
    return carvings + [ring(4, 3), spiral(24), rolled(), grown(30, 2)]


class ReachTest(Case):
    def test_empty_start(self):
        self.assertEqual(reach(row(3), (0, 1)), ())
        self.assertEqual(reach(ring(3, 3), (1, 1)), ())
        self.assertEqual(reach(row(3), (LARGE, -FAR)), ())

    def test_start_that_is_not_free(self):
        self.assertEqual(reach(row(3), (1, 0)), ((1, 0),))
        self.assertEqual(reach(((5, 6),), (5, 6)), ((5, 6),))

    def test_told_bodies(self):
        self.assertEqual(reach(row(2), (0, 0)), ((0, 0), (1, -1), (1, 1), (2, 0)))
        self.assertEqual(
            reach(start=(0, 0), body=row(3)),
            ((0, 0), (1, -1), (1, 1), (2, -1), (2, 1), (3, 0)),
        )
        self.assertEqual(reach(ring(3, 3), (1, 0))[:3], ((-1, 0), (-1, 1), (-1, 2)))
        within = tuple(sorted(ring(5, 5) + ((1, 2),)))
        self.assertEqual(reach(within, (1, 2)), tuple(sorted(set(block(5, 5)) - set(ring(5, 5)) - {(2, 2)})))

    def test_against_the_plain_walks(self):
        for body in all_shapes(5) + bodies_with_regions():
            for start in body:
                self.assertEqual(reach(body, start), tuple(sorted(plain_walks(body, start))))

    def test_far_away(self):
        by = (-LARGE, FAR)
        self.assertEqual(reach(moved(row(3), by), by), moved(reach(row(3), (0, 0)), by))

    def test_errors_in_their_order(self):
        for value in NO_CELLS:
            self.assert_error((BadCell, value), reach, row(3), value)
            self.assert_error((BadBody, ()), reach, (), value)
        for value in NO_BODIES:
            self.assert_error((BadBody, value), reach, value, (0, 0))
            self.assert_error((BadBody, value), reach, value, None)


class WalkTest(Case):
    def assert_walk(self, body, start, end, plan):
        self.assertEqual(walk(body, start, end), plan)
        self.assertEqual(walk_length(body, start, end), None if plan is None else len(plan))

    def test_start_that_is_empty(self):
        self.assert_walk(row(3), (0, 1), (3, 0), None)
        self.assert_walk(row(3), (0, 1), (0, 1), None)
        self.assert_walk(row(3), (FAR, 1), (0, 0), None)
        self.assert_walk(((0, 0),), (1, 0), (1, 0), None)

    def test_start_that_is_not_free(self):
        self.assert_walk(row(3), (1, 0), (1, 1), None)
        self.assert_walk(row(3), (1, 0), (1, 0), ())
        self.assert_walk(((7, 7),), (7, 7), (7, 7), ())
        self.assert_walk(((7, 7),), (7, 7), (7, 8), None)

    def test_start_and_end_the_same(self):
        for body in all_shapes(4):
            for start in body:
                self.assert_walk(body, start, start, ())

    def test_end_that_is_a_square(self):
        self.assert_walk(row(3), (0, 0), (1, 0), None)
        self.assert_walk(row(3), (0, 0), (2, 0), None)

    def test_end_that_can_not_be_come_to(self):
        self.assert_walk(row(3), (0, 0), (-1, 0), None)
        self.assert_walk(row(3), (0, 0), (4, 0), None)
        self.assert_walk(row(3), (0, 0), (LARGE, LARGE), None)
        within = tuple(sorted(ring(5, 5) + ((1, 2),)))
        self.assert_walk(within, (1, 2), (-1, 2), None)
        self.assert_walk(within, (1, 2), (2, 2), None)
        outside = tuple(sorted(ring(4, 4) + ((4, 0),)))
        self.assert_walk(outside, (4, 0), (1, 1), None)

    def test_one_move(self):
        self.assert_walk(row(2), (0, 0), (1, 1), (((0, 0), (1, 1)),))
        self.assert_walk(block(2, 2) + ((2, 0),), (2, 0), (2, 1), (((2, 0), (2, 1)),))

    def test_equally_long_ones_in_both_directions(self):
        self.assert_walk(row(2), (0, 0), (2, 0), (((0, 0), (1, -1)), ((1, -1), (2, 0))))
        told = (((0, 0), (1, -1)), ((1, -1), (2, -1)), ((2, -1), (3, -1)), ((3, -1), (4, 0)))
        self.assert_walk(row(4), (0, 0), (4, 0), told)
        told = (((3, 0), (2, -1)), ((2, -1), (1, -1)), ((1, -1), (0, -1)), ((0, -1), (-1, 0)))
        self.assert_walk(row(4), (3, 0), (-1, 0), told)

    def test_the_shorter_direction(self):
        self.assertEqual(walk_length(row(6), (0, 0), (5, 1)), 5)
        self.assertEqual(walk(row(6), (0, 0), (5, 1))[0], ((0, 0), (1, 1)))
        self.assertEqual(walk(row(6), (0, 0), (5, -1))[0], ((0, 0), (1, -1)))

    def test_across_a_corridor(self):
        walls = {(column, up) for column in range(8) for up in (0, 2)} | {(7, 1)}
        body = tuple(sorted(walls | {(-1, 2)}))
        self.assertEqual(walk_length(body, (-1, 2), (6, 1)), 7)
        # From one bank to the other the border alone would lead to the end of the corridor and back.
        self.assert_walk(body, (-1, 2), (-1, 0), (((-1, 2), (0, 1)), ((0, 1), (-1, 0))))

    def test_against_the_plain_walks(self):
        walks = 0
        for body in all_shapes(5) + bodies_with_regions():
            for start in body if len(body) < 6 else plain_free(body)[::3]:
                plans = plain_walks(body, start)
                for end in frame_around(body, 2):
                    self.assert_walk(body, start, end, plans.get(end))
                    walks += end in plans
        self.assertGreater(walks, 2000)

    def test_far_away(self):
        by = (LARGE, -FAR)
        body = rolled()
        plan = walk(body, (0, 2), (1, 1))
        self.assertEqual(walk(moved(body, by), add((0, 2), by), add((1, 1), by)), moved_plan(plan, by))

    def test_by_name(self):
        self.assertEqual(walk(end=(2, 0), start=(0, 0), body=row(2)), walk(row(2), (0, 0), (2, 0)))
        self.assertEqual(walk_length(end=(2, 0), start=(0, 0), body=row(2)), 2)

    def test_errors_in_their_order(self):
        for call in (walk, walk_length):
            for value in NO_CELLS:
                self.assert_error((BadCell, value), call, row(3), value, (0, 0))
                self.assert_error((BadCell, value), call, row(3), (0, 0), value)
                self.assert_error((BadCell, value), call, row(3), (9, 9), value)
                self.assert_error((BadCell, value), call, row(3), value, "no cell")
                self.assert_error((BadBody, ()), call, (), value, value)
            for value in NO_BODIES:
                self.assert_error((BadBody, value), call, value, (0, 0), (1, 1))
                self.assert_error((BadBody, value), call, value, None, None)


class FactsTest(Case):
    def bodies(self):
        return [body for body in many_bodies() + bodies_with_regions() + [rolled_twice()] if len(body) > 1]

    def test_reach_is_the_border_of_the_region_in_the_rest(self):
        for body in self.bodies():
            for start in body:
                told = (start,)
                if start in free_squares(body):
                    rest = tuple(square for square in body if square != start)
                    ring_of_sides = border(rest, region_at(rest, start))
                    told = tuple(sorted({cell for cell, _ in ring_of_sides}))
                self.assertEqual(reach(body, start), told)

    def test_at_most_as_many_moves_as_squares(self):
        for body in self.bodies():
            for start in free_squares(body)[::4]:
                for end in reach(body, start)[::2]:
                    plan = walk(body, start, end)
                    self.assertLessEqual(len(plan), len(body))
                    self.assertIsNone(first_wrong(body, plan))

    def test_the_plan_backward(self):
        for body in self.bodies():
            for start in free_squares(body)[::5]:
                for end in reach(body, start)[::3]:
                    plan = walk(body, start, end)
                    other = end_of(body, plan)
                    self.assertIsNone(first_wrong(other, back(plan)))
                    self.assertEqual(walk_length(other, end, start), len(plan))

    def test_shutting_gaps(self):
        shut = 0
        for body in self.bodies() + [carved(7, 7, 34, seed) for seed in range(1, 60)]:
            hanging = [number for number, _ in hung(body)]
            sides = {square for number in hanging for _, square in border(body, number)}
            outer = {square for _, square in border(body, 0)}
            for square in sorted((sides & set(free_squares(body))) - outer):
                rest = tuple(other for other in body if other != square)
                number = region_at(rest, square)
                self.assertGreater(number, 0)
                gap = dict(hung(rest))[number]
                cell = [place for place in gap[2:] if region_at(rest, place) == number][0]
                plan = walk(body, square, cell)
                self.assertIsNotNone(plan)
                self.assertLess(len(hung(end_of(body, plan))), len(hanging))
                shut += 1
        self.assertGreater(shut, 20)


class LimitsTest(Case):
    def test_along_a_row_and_a_column(self):
        bodies = large_bodies()
        plan = walk(bodies["row"], (0, 0), (200, 0))
        self.assertEqual(len(plan), 200)
        self.assertEqual(plan[:2], (((0, 0), (1, -1)), ((1, -1), (2, -1))))
        self.assertEqual(walk_length(bodies["column"], (0, 0), (0, 200)), 200)

    def test_through_a_corridor(self):
        body = large_bodies()["spiral"]
        inner, outer = free_squares(body)[0], free_squares(body)[-1]
        for start in (inner, outer):
            cells = reach(body, start)
            plans = plain_walks(body, start)
            self.assertEqual(cells, tuple(sorted(plans)))
            for end in cells[::25]:
                self.assertEqual(walk(body, start, end), plans[end])

    def test_round_a_ring(self):
        body = tuple(sorted(ring(50, 50) + ((25, 1), (25, -1))))
        self.assertEqual(walk_length(body, (25, 1), (25, 48)), 23 + 47 + 23)
        self.assertEqual(walk(body, (25, 1), (25, 48))[0], ((25, 1), (26, 1)))
        self.assertEqual(walk_length(body, (25, -1), (25, 50)), 24 + 1 + 49 + 1 + 24)

    def test_each_answers(self):
        for body in large_bodies().values():
            for start in free_squares(body)[::20]:
                cells = reach(body, start)
                plan = walk(body, start, cells[len(cells) // 2])
                self.assertIsNone(first_wrong(body, plan))
                self.assertEqual(walk_length(body, start, cells[-1]), len(walk(body, start, cells[-1])))
