"""Points [32] to [38]: from any body to any other one."""

from tests.helper import NO_BODIES, NO_CELLS, NO_NUMBERS, Case, all_shapes, block, carved, grown, image, ring, rolled
from tests.helper import row, spiral

from slideinto.bodies import frame_of, moved
from slideinto.errors import BadBody, BadCell, BadNumber
from slideinto.joining import bound_between, climb, column_at, crawl, lie, plan_between, row_at, row_plan, stand
from slideinto.plans import back, bodies_of, end_of, first_wrong, moved_plan
from slideinto.rows import bound_to_row, outer_free, plan_to_row
from slideinto.walks import walk, walk_length

FAR = 10 ** 30
LARGE = 10 ** 5000

BELOW_TWO = NO_NUMBERS + (1, 0, -1, -FAR)


def walked(body, walks):
    """The moves of told walks, each in the body as it is then."""
    moves = ()
    for start, end in walks:
        plan = walk(body, start, end)
        moves += plan
        body = end_of(body, plan)
    return moves


def stretches(plan):
    """How many walks a plan has in which no square goes twice, one walk behind the other."""
    return sum(index == 0 or plan[index - 1][1] != move[0] for index, move in enumerate(plan))


def least_frame(*bodies):
    west, south, east, north = frame_of(tuple(sorted(set().union(*bodies))))
    return east - west + 1, north - south + 1


class RowsTest(Case):
    def test_rows_and_columns(self):
        self.assertEqual(row_at((3, -4), 1), ((3, -4),))
        self.assertEqual(column_at((3, -4), 1), ((3, -4),))
        self.assertEqual(row_at((-1, 2), 4), ((-1, 2), (0, 2), (1, 2), (2, 2)))
        self.assertEqual(column_at((-1, 2), 4), ((-1, 2), (-1, 3), (-1, 4), (-1, 5)))
        self.assertEqual(row_at(n=2, first=(0, 0)), ((0, 0), (1, 0)))
        self.assertEqual(column_at(n=2, first=(0, 0)), ((0, 0), (0, 1)))

    def test_far_away(self):
        self.assertEqual(row_at((-FAR, LARGE), 2), ((-FAR, LARGE), (1 - FAR, LARGE)))
        self.assertEqual(column_at((LARGE, -FAR), 2), ((LARGE, -FAR), (LARGE, 1 - FAR)))

    def test_errors_in_their_order(self):
        for call in (row_at, column_at):
            for value in NO_CELLS:
                self.assert_error((BadCell, value), call, value, 3)
                self.assert_error((BadCell, value), call, value, 0)
            for value in NO_NUMBERS + (0, -1, -LARGE):
                self.assert_error((BadNumber, "n", value), call, (0, 0), value)


class AlongTest(Case):
    def test_nothing_to_do(self):
        for many in (2, 3, 9):
            self.assertEqual(crawl((0, 0), many, 0), ())
            self.assertEqual(climb((0, 0), many, 0), ())

    def test_two_squares(self):
        self.assertEqual(crawl((0, 0), 2, 1), (((0, 0), (1, -1)), ((1, -1), (2, 0))))
        self.assertEqual(crawl((0, 0), 2, -1), (((1, 0), (0, -1)), ((0, -1), (-1, 0))))
        self.assertEqual(climb((0, 0), 2, 1), (((0, 0), (-1, 1)), ((-1, 1), (0, 2))))
        self.assertEqual(climb((0, 0), 2, -1), (((0, 1), (-1, 0)), ((-1, 0), (0, -1))))

    def test_walks_of_rows(self):
        for many in (2, 3, 5, 8):
            for by in (1, 2, many + 3):
                column, up = 4, -7
                ahead = [((column + k, up), (column + k + many, up)) for k in range(by)]
                plan = crawl((column, up), many, by)
                self.assertEqual(plan, walked(row_at((column, up), many), ahead))
                self.assertEqual(end_of(row_at((column, up), many), plan), row_at((column + by, up), many))
                behind = [((column + many - 1 - k, up), (column - 1 - k, up)) for k in range(by)]
                plan = crawl((column, up), many, -by)
                self.assertEqual(plan, walked(row_at((column, up), many), behind))
                self.assertEqual(end_of(row_at((column, up), many), plan), row_at((column - by, up), many))

    def test_walks_of_columns(self):
        for many in (2, 3, 5, 8):
            for by in (1, 2, many + 3):
                column, up = -3, 9
                ahead = [((column, up + k), (column, up + k + many)) for k in range(by)]
                plan = climb((column, up), many, by)
                self.assertEqual(plan, walked(column_at((column, up), many), ahead))
                self.assertEqual(end_of(column_at((column, up), many), plan), column_at((column, up + by), many))
                behind = [((column, up + many - 1 - k), (column, up - 1 - k)) for k in range(by)]
                plan = climb((column, up), many, -by)
                self.assertEqual(plan, walked(column_at((column, up), many), behind))
                self.assertEqual(end_of(column_at((column, up), many), plan), column_at((column, up - by), many))

    def test_far_away_and_by_name(self):
        self.assertEqual(crawl((LARGE, -FAR), 3, 2), moved_plan(crawl((0, 0), 3, 2), (LARGE, -FAR)))
        self.assertEqual(crawl(by=-2, n=3, first=(1, 1)), crawl((1, 1), 3, -2))
        self.assertEqual(climb(by=-2, n=3, first=(1, 1)), climb((1, 1), 3, -2))

    def test_errors_in_their_order(self):
        for call in (crawl, climb):
            for value in NO_CELLS:
                self.assert_error((BadCell, value), call, value, 3, 1)
                self.assert_error((BadCell, value), call, value, 1, None)
            for value in BELOW_TWO:
                self.assert_error((BadNumber, "n", value), call, (0, 0), value, 1)
                self.assert_error((BadNumber, "n", value), call, (0, 0), value, "1")
            for value in NO_NUMBERS:
                self.assert_error((BadNumber, "by", value), call, (0, 0), 2, value)


class StandAndLieTest(Case):
    def test_stand(self):
        self.assertEqual(stand((0, 0), 2), (((0, 0), (1, 1)),))
        for many in (2, 3, 4, 7):
            column, up = -2, 5
            told = [((column + k - 1, up), (column + many - 1, up + k)) for k in range(1, many)]
            plan = stand(n=many, first=(column, up))
            self.assertEqual(plan, walked(row_at((column, up), many), told))
            self.assertEqual(end_of(row_at((column, up), many), plan), column_at((column + many - 1, up), many))

    def test_lie(self):
        self.assertEqual(lie((0, 0), 2), (((0, 1), (1, 0)),))
        for many in (2, 3, 4, 7):
            column, up = 6, -9
            told = [((column, up + many - k), (column + k, up)) for k in range(1, many)]
            plan = lie(n=many, first=(column, up))
            self.assertEqual(plan, walked(column_at((column, up), many), told))
            self.assertEqual(end_of(column_at((column, up), many), plan), row_at((column, up), many))

    def test_far_away(self):
        self.assertEqual(stand((-LARGE, FAR), 4), moved_plan(stand((0, 0), 4), (-LARGE, FAR)))
        self.assertEqual(lie((-LARGE, FAR), 4), moved_plan(lie((0, 0), 4), (-LARGE, FAR)))

    def test_errors_in_their_order(self):
        for call in (stand, lie):
            for value in NO_CELLS:
                self.assert_error((BadCell, value), call, value, 3)
                self.assert_error((BadCell, value), call, value, 1)
            for value in BELOW_TWO:
                self.assert_error((BadNumber, "n", value), call, (0, 0), value)


class RowPlanTest(Case):
    def pieces(self, first, other, many):
        (column, up), (goal, above) = first, other
        foot, top = (column + many - 1, up), (column + many - 1, above)
        told = stand(first, many) + climb(foot, many, above - up) + lie(top, many)
        return told + crawl(top, many, goal - column - many + 1)

    def test_the_same_cell(self):
        self.assertEqual(row_plan((5, 5), (5, 5), 2), ())
        self.assertEqual(row_plan((-LARGE, 5), (-LARGE, 5), 9), ())

    def test_one_line(self):
        for by in (1, 3, 11):
            self.assertEqual(row_plan((2, 3), (2 + by, 3), 4), crawl((2, 3), 4, by))
            self.assertEqual(row_plan((2 + by, 3), (2, 3), 4), back(crawl((2, 3), 4, by)))

    def test_rows_above_each_other(self):
        for many in (2, 3, 6):
            for across in (-9, -1, 0, 1, many - 1, many, 12):
                for up in (1, 2, many, 10):
                    first, other = (3, -2), (3 + across, up - 2)
                    plan = row_plan(first, other, many)
                    self.assertEqual(plan, self.pieces(first, other, many))
                    self.assertEqual(row_plan(other, first, many), back(plan))
                    self.assertEqual(end_of(row_at(first, many), plan), row_at(other, many))
                    self.assertEqual(end_of(row_at(other, many), back(plan)), row_at(first, many))

    def test_the_row_counts_ahead_of_the_column(self):
        self.assertEqual(row_plan((0, 1), (9, 0), 3), back(row_plan((9, 0), (0, 1), 3)))
        self.assertEqual(row_plan((9, 0), (0, 1), 3), self.pieces((9, 0), (0, 1), 3))

    def test_far_away_and_by_name(self):
        by = (-FAR, LARGE)
        plan = row_plan((0, 0), (5, 2), 3)
        self.assertEqual(row_plan(by, (5 - FAR, 2 + LARGE), 3), moved_plan(plan, by))
        self.assertEqual(row_plan(n=3, other=(5, 2), first=(0, 0)), plan)

    def test_errors_in_their_order(self):
        for value in NO_CELLS:
            self.assert_error((BadCell, value), row_plan, value, (0, 0), 3)
            self.assert_error((BadCell, value), row_plan, value, "no cell", 1)
            self.assert_error((BadCell, value), row_plan, (0, 0), value, 3)
            self.assert_error((BadCell, value), row_plan, (0, 0), value, None)
        for value in BELOW_TWO:
            self.assert_error((BadNumber, "n", value), row_plan, (0, 0), (0, 0), value)
            self.assert_error((BadNumber, "n", value), row_plan, (0, 0), (5, 5), value)


def pairs_of_bodies():
    """Pairs of bodies with as many squares: apart, across each other, and with pockets."""
    shapes = [shape for shape in all_shapes(5) if len(shape) > 1]
    told = [(one, moved(two, (k % 5 - 2, k % 7 - 3))) for k, one in enumerate(shapes) for two in shapes[k % 9::9]
            if len(one) == len(two)]
    larger = [rolled(), carved(6, 6, 25, 3), grown(25, 1), row(25), spiral(25), block(5, 5), image(rolled(), 3)]
    return told + [(one, moved(two, (4, -30 + 7 * k))) for k, one in enumerate(larger) for two in larger]


class PlanBetweenTest(Case):
    def test_equal_bodies(self):
        for body in (((3, 3),), row(2), rolled(), ((LARGE, -FAR),)):
            self.assertEqual(plan_between(body, body), ())
            self.assertEqual(bound_between(body, body), 0)

    def test_put_together_of_three_pieces(self):
        for body, other in pairs_of_bodies():
            if body != other:
                here, there = plan_to_row(body), plan_to_row(other)
                across = row_plan(here.row[0], there.row[0], len(body))
                self.assertEqual(plan_between(body, other), here.moves + across + back(there.moves))

    def test_the_row_itself_goes_there_and_back(self):
        # The same shape moved by one is no shorter way: the three pieces are told all the same.
        plan = plan_between(row(2), moved(row(2), (1, 0)))
        told = plan_to_row(row(2)).moves + crawl((1, 0), 2, 1) + back(plan_to_row(moved(row(2), (1, 0))).moves)
        self.assertEqual(plan, told)

    def test_by_name(self):
        self.assertEqual(plan_between(other=row(3), body=((0, 0), (0, 1), (1, 0))),
                         plan_between(((0, 0), (0, 1), (1, 0)), row(3)))
        self.assertEqual(bound_between(other=row(3), body=((0, 0), (0, 1), (1, 0))),
                         bound_between(((0, 0), (0, 1), (1, 0)), row(3)))

    def test_bound(self):
        for body, other in pairs_of_bodies():
            if body != other:
                many, both = len(body), least_frame(body, other)
                told = bound_to_row(many, *least_frame(body)) + bound_to_row(many, *least_frame(other))
                self.assertEqual(bound_between(body, other), told + many * (3 * many + sum(both)))
        told = bound_between(row(3), moved(row(3), (FAR, 0)))
        self.assertEqual(told, 2 * bound_to_row(3, 3, 1) + 3 * (9 + FAR + 3 + 1))

    def test_errors_in_their_order(self):
        for call in (plan_between, bound_between):
            for value in NO_BODIES:
                self.assert_error((BadBody, value), call, value, row(2))
                self.assert_error((BadBody, value), call, value, value)
                self.assert_error((BadBody, value), call, value, None)
                self.assert_error((BadBody, value), call, row(2), value)
            self.assert_error((BadBody, row(3)), call, row(2), row(3))
            self.assert_error((BadBody, row(1)), call, row(2), row(1))
            self.assert_error((BadBody, row(2)), call, row(1), row(2))
            self.assert_error((BadBody, ((0, 1),)), call, ((0, 0),), ((0, 1),))
            self.assert_error((BadBody, ((FAR, 1),)), call, ((0, 0),), ((FAR, 1),))


class FactsTest(Case):
    def test_every_body_becomes_every_other_one(self):
        for body, other in pairs_of_bodies():
            plan = plan_between(body, other)
            self.assertIsNone(first_wrong(body, plan))
            self.assertEqual(end_of(body, plan), other)
            self.assertLessEqual(len(plan), bound_between(body, other))
            self.assertEqual(plan_between(other, body), back(plan))

    def test_bodies_without_an_outer_free_square(self):
        bodies = [image(rolled(), way) for way in range(8)]
        for body, other in zip(bodies, bodies[1:]):
            self.assertEqual(outer_free(body), ())
            plan = plan_between(body, other)
            self.assertEqual(bodies_of(body, plan)[-1], other)

    def test_walks_of_a_row_plan(self):
        for many in (2, 3, 6):
            for other in ((0, 1), (5, 0), (-7, 3), (12, 9), (-1, 20)):
                plan = row_plan((0, 0), other, many)
                wide, high = abs(other[0]) + 1, abs(other[1]) + 1
                self.assertLessEqual(stretches(plan), 3 * many + wide + high)
                self.assertLessEqual(len(plan), many * (3 * many + wide + high))

    def test_walks_have_at_most_as_many_moves_as_squares(self):
        for many in (2, 5, 9):
            self.assertEqual(walk_length(row_at((0, 0), many), (0, 0), (many, 0)), many)
            self.assertLessEqual(len(stand((0, 0), many)), many * (many - 1))
            self.assertLessEqual(len(lie((0, 0), many)), many * (many - 1))


class LimitsTest(Case):
    def test_forty_squares_in_a_large_frame(self):
        for body, other in (
            (spiral(40), moved(ring(11, 11), (185, 180))),
            (moved(grown(40, 9), (0, 150)), moved(block(8, 5), (180, 0))),
            (row(40), moved(carved(8, 8, 40, 2), (100, 190))),
        ):
            plan = plan_between(body, other)
            self.assertEqual(end_of(body, plan), other)
            self.assertLessEqual(len(plan), bound_between(body, other))

    def test_long_ways(self):
        self.assertEqual(len(crawl((0, 0), 40, 160)), 6400)
        self.assertEqual(len(climb((0, 0), 40, -160)), 6400)
        self.assertEqual(end_of(row_at((0, 0), 40), stand((0, 0), 40)), column_at((39, 0), 40))
        self.assertEqual(end_of(row_at((0, 0), 40), row_plan((0, 0), (160, 160), 40)), row_at((160, 160), 40))
