"""Points [84] to [90]: costs, pairings and papers."""

import itertools

from tests.helper import NO_BODIES, NO_CELLS, Case, all_shapes, block, carved, drawn_plan, grown, image, many_bodies
from tests.helper import ring, rolled, row, spiral

from slideinto.below import Paper, below, cheapest, cost, cost_of, is_paper, paper_of, sum_of, waste
from slideinto.bodies import moved
from slideinto.errors import BadBody, BadCell, BadNumber, NotKept
from slideinto.joining import climb, column_at, crawl, plan_between, row_at
from slideinto.moves import done, moves_of
from slideinto.named import named_behind, placed, plan_named
from slideinto.plans import back, end_of
from slideinto.shorter import shorter
from slideinto.small import least_plan

FAR = 10 ** 30
LARGE = 10 ** 5000
LIMIT = 10 ** 16


def plan_for(body, many, seed):
    return drawn_plan(body, many, seed, moves_of, done)


def plain_cost(one, two):
    return max(abs(one[0] - two[0]), abs(one[1] - two[1]))


def plain_below(body, other):
    return min(sum(map(plain_cost, body, way)) for way in itertools.permutations(other))


def pairs_of_bodies():
    """Bodies of a few squares with others of as many, apart and across each other."""
    shapes = all_shapes(5)
    for k, body in enumerate(shapes):
        for other in shapes[k % 3::3]:
            if len(other) == len(body):
                for by in ((0, 0), (1, 2), (-7, 3)):
                    yield body, moved(other, by)
    for seed in range(1, 6):
        yield grown(6, seed), moved(image(grown(6, seed + 3), seed), (seed % 3, -1))


def larger_pairs():
    for seed in range(1, 12):
        yield carved(6, 6, 20, seed), moved(image(grown(20, seed), seed % 8), (3 * seed - 15, seed % 4))
    yield ring(6, 6), moved(row(20), (-5, 2))
    yield rolled(), moved(image(rolled(), 3), (2, 2))


class CostTest(Case):
    def test_costs(self):
        self.assertEqual(cost((0, 0), (0, 0)), 0)
        for column, up in itertools.product(range(-3, 4), range(-3, 4)):
            self.assertEqual(cost((2, -1), (2 + column, up - 1)), max(abs(column), abs(up)))
        self.assertEqual(cost((LARGE, 0), (-LARGE, FAR)), 2 * LARGE)
        self.assertEqual(cost(two=(3, 4), one=(1, 9)), 5)

    def test_bad_cells_in_their_order(self):
        for value in NO_CELLS:
            self.assert_error((BadCell, value), cost, value, (0, 0))
            self.assert_error((BadCell, value), cost, (0, 0), value)
            self.assert_error((BadCell, value), cost, value, None)
            self.assert_error((BadCell, value), cost, two=5, one=value)

    def test_cost_of(self):
        self.assertEqual(cost_of([]), 0)
        self.assertEqual(cost_of(()), 0)
        self.assertEqual(cost_of([((0, 0), (3, 1)), ((5, 5), (5, 5)), ((0, 0), (3, 1))]), 6)
        self.assertEqual(cost_of(pairs=(((0, 0), (LARGE, -1)),)), LARGE)

    def test_bad_pairs(self):
        wrong = [
            None, 0, "ab", {}, ((0, 0), (1, 1)), [None], [()], [((0, 0),)], [((0, 0), (1, 1), (2, 2))],
            [[(0, 0), (1, 1)]], [((0, 0), (1, 1)), 5], ([(0, 0), (1, 1)],), 1.5, [((0, 0), (1, 1)), "ab"],
        ]
        wrong += [[(value, (0, 0))] for value in NO_CELLS] + [[((0, 0), value)] for value in NO_CELLS]
        for pairs in wrong:
            self.assert_error((BadNumber, "pairs", pairs), cost_of, pairs)


class BelowTest(Case):
    def assert_right(self, body, other, least=None):
        told = below(body, other)
        if least is not None:
            self.assertEqual(told, least)
        pairs = cheapest(body, other)
        self.assertEqual(type(pairs), tuple)
        self.assertEqual([one for one, _ in pairs], list(body))
        self.assertEqual(sorted(two for _, two in pairs), list(other))
        self.assertEqual(sum(plain_cost(one, two) for one, two in pairs), told)
        self.assertEqual(cost_of(pairs), told)
        paper = paper_of(body, other)
        self.assertIsInstance(paper, Paper)
        self.assertIs(is_paper(body, other, paper), True)
        self.assertEqual(sum_of(paper), told)
        self.assertEqual(self.plain_sum(body, other, paper), told)

    def plain_sum(self, body, other, paper):
        """The sum of a paper that shows what it is to show."""
        for numbers, squares in ((paper.ups, body), (paper.downs, other)):
            self.assertIs(type(numbers), tuple)
            self.assertEqual({type(number) for number in numbers}, {int})
            self.assertEqual(len(numbers), len(squares))
        for (one, up), (two, down) in itertools.product(zip(body, paper.ups), zip(other, paper.downs)):
            self.assertLessEqual(up + down, plain_cost(one, two))
        return sum(paper.ups) + sum(paper.downs)


class PairingTest(BelowTest):
    def test_against_all_pairings(self):
        for body, other in pairs_of_bodies():
            self.assert_right(body, other, plain_below(body, other))

    def test_larger_bodies(self):
        for body, other in larger_pairs():
            self.assert_right(body, other)

    def test_one_square(self):
        self.assert_right(((0, 0),), ((3, -5),), 5)
        self.assert_right(((0, 0),), ((0, 0),), 0)

    def test_by_name(self):
        body, other = spiral(9), block(3, 3)
        self.assertEqual(below(other=other, body=body), below(body, other))
        self.assertEqual(cheapest(other=other, body=body), cheapest(body, other))
        paper = paper_of(other=other, body=body)
        self.assertIs(is_paper(paper=paper, other=other, body=body), True)
        self.assertEqual(sum_of(paper=paper), below(body, other))
        self.assertEqual(vars(Paper(downs=(1,), ups=(2,))), {"ups": (2,), "downs": (1,)})

    def test_errors(self):
        paper = paper_of(row(2), row(2))
        for value in NO_BODIES:
            for call in (below, cheapest, paper_of):
                self.assert_error((BadBody, value), call, value, row(2))
                self.assert_error((BadBody, value), call, value, None)
                self.assert_error((BadBody, value), call, row(2), value)
            self.assert_error((BadBody, value), is_paper, value, row(2), paper)
            self.assert_error((BadBody, value), is_paper, value, None, Paper(1, 2))
            self.assert_error((BadBody, value), is_paper, row(2), value, paper)
        for other in (row(1), row(3), ring(3, 3)):
            for call in (below, cheapest, paper_of):
                self.assert_error((BadBody, other), call, row(2), other)
            self.assert_error((BadBody, other), is_paper, row(2), other, paper)
            self.assert_error((BadBody, other), is_paper, row(2), other, Paper(None, None))


class PaperTest(Case):
    def test_one_number_changed(self):
        for body, other in list(pairs_of_bodies())[::5] + list(larger_pairs())[:4]:
            paper = paper_of(body, other)
            for index in range(len(body)):
                up, down = list(paper.ups), list(paper.downs)
                up[index] += 1
                down[index] += 1
                self.assertIs(is_paper(body, other, Paper(tuple(up), paper.downs)), False)
                self.assertIs(is_paper(body, other, Paper(paper.ups, tuple(down))), False)
                up[index] -= 2
                self.assertIs(is_paper(body, other, Paper(tuple(up), paper.downs)), True)

    def test_other_values(self):
        body, other = row(3), column_at((5, 5), 3)
        right = (0, 0, 0)
        self.assertIs(is_paper(body, other, Paper(right, right)), True)
        wrong = [
            None, 0, "abc", "", (), (0,), (0, 0), (0, 0, 0, 0), [0, 0, 0], {}, (0, 0, None), (0, 0, True),
                (False, 0, 0),
            (0, "0", 0), (0, 0, (0,)), (0, 0, 0.0), ((0, 0), 0, 0), 1.5, {0: 0, 1: 1, 2: 2},
        ]
        for value in wrong:
            self.assertIs(is_paper(body, other, Paper(value, right)), False)
            self.assertIs(is_paper(body, other, Paper(right, value)), False)
            self.assertIs(is_paper(body, other, Paper(value, value)), False)

    def test_the_border(self):
        body, other = ((0, 0),), ((3, -5),)
        for up, down in itertools.product(range(-4, 9), range(-4, 9)):
            self.assertIs(is_paper(body, other, Paper((up,), (down,))), up + down <= 5)
        self.assertIs(is_paper(body, other, Paper((-LARGE,), (LARGE + 5,))), True)
        self.assertIs(is_paper(body, other, Paper((-LARGE,), (LARGE + 6,))), False)

    def test_sum_of(self):
        self.assertEqual(sum_of(Paper((), ())), 0)
        self.assertEqual(sum_of(Paper((1, -5), (7,))), 3)
        self.assertEqual(sum_of(Paper((LARGE,), (1, 2, -LARGE))), 3)


class FactsTest(Case):
    def test_papers_and_pairings(self):
        for body, other in list(pairs_of_bodies())[::4]:
            if len(body) < 5:
                paper = paper_of(body, moved(other, (1, 0)))
                if is_paper(body, other, paper):
                    for way in itertools.permutations(other):
                        self.assertLessEqual(sum_of(paper), cost_of(tuple(zip(body, way))))

    def test_one_move_changes_it_by_one_at_most(self):
        for body, other in list(pairs_of_bodies())[::9] + list(larger_pairs())[:3]:
            before = below(body, other)
            for move in moves_of(body):
                self.assertLessEqual(abs(below(done(body, *move), other) - before), 1)

    def test_every_plan_has_as_many_moves(self):
        for body, other in list(pairs_of_bodies())[::3] + list(larger_pairs()):
            if len(body) > 1:
                self.assertGreaterEqual(len(plan_between(body, other)), below(body, other))
        for seed, body in enumerate(many_bodies()):
            if 1 < len(body) < 40:
                plan = plan_for(body, 20, seed)
                self.assertGreaterEqual(len(plan), below(body, end_of(body, plan)))

    def test_it_is_a_distance(self):
        shapes = [body for body in all_shapes(4) if len(body) == 4]
        bodies = [moved(body, (k % 3, k % 2)) for k, body in enumerate(shapes)] + shapes
        told = {(one, two): below(one, two) for one in bodies for two in bodies}
        for one, two in told:
            self.assertEqual(told[one, two], told[two, one])
            self.assertEqual(told[one, two] == 0, one == two)
            for third in bodies:
                self.assertLessEqual(told[one, third], told[one, two] + told[two, third])

    def test_names(self):
        for seed, body in enumerate([body for body in all_shapes(4) if len(body) > 2]):
            places = placed(body, [f"s{k}" for k in range(len(body))])
            goals = named_behind(places, plan_for(body, 6, seed))
            pairs = tuple((cell, dict(goals)[name]) for name, cell in places)
            self.assertLessEqual(cost_of(pairs), 6)
            self.assertLessEqual(cost_of(pairs), len(plan_named(places, goals)))

    def test_rows_that_crawl_and_columns_that_climb(self):
        for n in (2, 3, 7, 20):
            for by in (-9, -1, 0, 1, 2, 30):
                c, r = -4, 9
                for one, two, plan in (
                    (row_at((c, r), n), row_at((c + by, r), n), crawl((c, r), n, by)),
                    (column_at((c, r), n), column_at((c, r + by), n), climb((c, r), n, by)),
                ):
                    self.assertEqual(below(one, two), n * abs(by))
                    self.assertEqual(len(plan), n * abs(by))
                    self.assertEqual(waste(one, plan), 0)

    def test_least_plans(self):
        for seed, body in enumerate([body for body in all_shapes(5) if len(body) > 2]):
            other = image(grown(len(body), seed), seed % 8)
            least = least_plan(body, other)
            self.assertGreaterEqual(len(least.plan), below(body, moved(other, least.by)))


class WasteTest(Case):
    def test_waste(self):
        self.assertEqual(waste(row(3), ()), 0)
        self.assertEqual(waste(row(3), []), 0)
        plan = (((0, 0), (1, 1)),)
        self.assertEqual(waste(row(3), plan), 1 - below(row(3), ((1, 0), (1, 1), (2, 0))))
        self.assertEqual(waste(plan=plan + back(plan), body=row(3)), 2)
        for seed, body in enumerate(many_bodies()):
            if 1 < len(body) < 30:
                plan = plan_for(body, 9, seed)
                told = waste(body, plan)
                self.assertEqual(told, 9 - below(body, end_of(body, plan)))
                self.assertGreaterEqual(told, 0)
                self.assertGreaterEqual(told, waste(body, shorter(body, list(plan))))

    def test_errors_in_their_order(self):
        for value in NO_BODIES:
            for plan in ((), (None,)):
                self.assert_error((BadBody, value), waste, value, plan)
        plan = plan_for(ring(3, 3), 4, 3)
        for pair in (((9, 9), (9, 8)), (None, None)):
            for index in range(5):
                wrong = plan[:index] + (pair,) + plan[index:]
                self.assert_error((NotKept, "plan", index), waste, ring(3, 3), wrong)
                self.assert_error((NotKept, "plan", index), waste, ring(3, 3), list(wrong))


class LimitsTest(BelowTest):
    def test_forty_squares_far_away(self):
        bodies = [row(40), spiral(40), grown(40, 3), block(5, 8), carved(8, 8, 40, 3), column_at((0, 0), 40)]
        corners = [(LIMIT, LIMIT), (-LIMIT, LIMIT - 40), (-LIMIT, -LIMIT), (LIMIT - 40, -LIMIT), (0, 0), (7, LIMIT)]
        for k, body in enumerate(bodies):
            other = bodies[(k + 1) % 6]
            for j in (k, k + 2):
                self.assert_right(moved(body, corners[k]), moved(other, corners[(j + 1) % 6]))
                self.assert_right(moved(body, corners[k]), moved(other, corners[k]))

    def test_they_are_worked_out(self):
        body = row(40, (-LIMIT, 0))
        self.assertEqual(below(body, row(40, (LIMIT, 0))), 40 * 2 * LIMIT)
        self.assertEqual(cost((-LIMIT, 0), (LIMIT, 5)), 2 * LIMIT)
