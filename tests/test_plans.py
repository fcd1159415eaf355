"""Points [11], [12] and [13]: plans."""

from tests.helper import NO_CELLS, Case, block, drawn_plan, large_bodies, many_bodies, plain_kind, ring, row, spiral

from slideinto.bodies import moved
from slideinto.errors import BadCell, NotKept
from slideinto.moves import done, moves_of
from slideinto.plans import back, bodies_of, end_of, first_wrong, moved_plan

FAR = 10 ** 30
LARGE = 10 ** 5000

BODY = ((0, 0), (0, 1), (1, 0), (1, 1), (2, 0))
PLAN = (((2, 0), (2, 1)), ((2, 1), (1, 2)), ((0, 0), (-1, 1)))


def plan_for(body, many, seed):
    return drawn_plan(body, many, seed, moves_of, done)


def bodies_with_plans():
    for seed, body in enumerate(many_bodies()):
        if len(body) > 1:
            yield body, plan_for(body, 12, seed + 1)


class PlansTest(Case):
    def assert_wrong(self, body, plan, index):
        for told in (tuple(plan), list(plan)):
            self.assertEqual(first_wrong(body, told), index)
            self.assert_error((NotKept, "plan", index), bodies_of, body, told)
            self.assert_error((NotKept, "plan", index), end_of, body, told)

    def assert_plan(self, body, plan, end):
        for told in (tuple(plan), list(plan)):
            self.assertIsNone(first_wrong(body, told))
            self.assertEqual(end_of(body, told), end)
            bodies = bodies_of(body, told)
            self.assertIs(type(bodies), tuple)
            self.assertEqual(len(bodies), len(plan) + 1)
            self.assertEqual((bodies[0], bodies[-1]), (body, end))


class RightPlansTest(PlansTest):
    def test_no_moves(self):
        for body in (((3, -3),), row(2), BODY):
            self.assert_plan(body, (), body)
            self.assertEqual(bodies_of(body, []), (body,))

    def test_a_plan_as_a_list_and_as_a_tuple(self):
        self.assert_plan(BODY, PLAN, ((-1, 1), (0, 1), (1, 0), (1, 1), (1, 2)))
        self.assertEqual(
            bodies_of(BODY, PLAN),
            (
                BODY,
                ((0, 0), (0, 1), (1, 0), (1, 1), (2, 1)),
                ((0, 0), (0, 1), (1, 0), (1, 1), (1, 2)),
                ((-1, 1), (0, 1), (1, 0), (1, 1), (1, 2)),
            ),
        )

    def test_bodies_one_move_after_the_other(self):
        for body, plan in bodies_with_plans():
            bodies = [body]
            for start, end in plan:
                self.assertIsNotNone(plain_kind(bodies[-1], start, end))
                bodies.append(tuple(sorted(set(bodies[-1]) - {start} | {end})))
            self.assertEqual(bodies_of(body, plan), tuple(bodies))
            self.assert_plan(body, plan, bodies[-1])

    def test_a_plan_far_away(self):
        by = (-FAR, LARGE)
        self.assert_plan(moved(BODY, by), moved_plan(PLAN, by), moved(end_of(BODY, PLAN), by))

    def test_by_name(self):
        self.assertIsNone(first_wrong(plan=PLAN, body=BODY))
        self.assertEqual(end_of(plan=PLAN, body=BODY), end_of(BODY, PLAN))
        self.assertEqual(bodies_of(plan=PLAN, body=BODY), bodies_of(BODY, PLAN))
        self.assertEqual(back(plan=PLAN), back(PLAN))
        self.assertEqual(moved_plan(by=(1, 2), plan=PLAN), moved_plan(PLAN, (1, 2)))

    def test_what_is_passed_stays_as_it_is(self):
        plan = list(PLAN)
        for call in (first_wrong, bodies_of, end_of):
            call(BODY, plan)
        back(plan)
        moved_plan(plan, (5, 5))
        self.assertEqual(plan, list(PLAN))
        self.assertEqual(BODY, ((0, 0), (0, 1), (1, 0), (1, 1), (2, 0)))


class WrongPlansTest(PlansTest):
    def test_pairs_that_are_no_moves(self):
        self.assert_wrong(BODY, [((0, 0), (0, 0))], 0)
        self.assert_wrong(BODY, [((0, 0), (1, 1))], 0)
        self.assert_wrong(BODY, [((5, 5), (5, 6))], 0)
        self.assert_wrong(BODY, [((1, 0), (2, 1))], 0)
        self.assert_wrong(BODY, [((2, 0), (LARGE, 0))], 0)
        self.assert_wrong(((4, 4),), [((4, 4), (4, 5))], 0)

    def test_a_wrong_pair_in_each_place(self):
        for index in range(len(PLAN)):
            for pair in (((9, 9), (9, 8)), (None, None), ((0, 1), (0, 1))):
                self.assert_wrong(BODY, PLAN[:index] + (pair,) + PLAN[index + 1:], index)
                self.assert_wrong(BODY, PLAN[:index] + (pair,) + PLAN[index:], index)
        self.assert_wrong(BODY, PLAN + (((9, 9), (9, 8)),), 3)

    def test_starts_and_ends_that_are_no_cells(self):
        for value in NO_CELLS:
            for pair in ((value, (2, 1)), ((2, 0), value), (value, value)):
                self.assert_wrong(BODY, [pair], 0)
                self.assert_wrong(BODY, list(PLAN) + [pair], 3)
                self.assert_wrong(BODY, [PLAN[0], pair, None], 1)

    def test_a_bool_in_the_place_of_an_integer(self):
        self.assertIsNone(first_wrong(row(2), [((0, 0), (1, 1))]))
        for pair in (((0, False), (1, 1)), ((0, 0), (True, 1)), ([0, 0], (1, 1)), ((0, 0), [1, 1])):
            self.assert_wrong(row(2), [pair], 0)

    def test_what_stands_behind_a_wrong_pair_does_not_count(self):
        self.assert_wrong(BODY, [PLAN[0], PLAN[0], PLAN[1]], 1)
        self.assert_wrong(BODY, [PLAN[1]] + list(PLAN), 0)

    def test_changed_plans(self):
        changes = 0
        for body, plan in bodies_with_plans():
            for index in range(0, len(plan), 3):
                head, pair, tail = plan[:index], plan[index], plan[index + 1:]
                changed = [
                    head + tail,
                    head + (pair, pair) + tail,
                    head + (pair[::-1],) + tail,
                    head + tail[:1] + (pair,) + tail[1:],
                    head + (moves_of(body)[0],) + plan[index:],
                ]
                for other in changed:
                    changes += self.is_told_as_wrong(body, other)
        self.assertGreater(changes, 1000)

    def is_told_as_wrong(self, body, plan):
        squares = set(body)
        for index, (start, end) in enumerate(plan):
            if plain_kind(tuple(sorted(squares)), start, end) is None:
                self.assert_wrong(body, plan, index)
                return 1
            squares = squares - {start} | {end}
        self.assert_plan(body, plan, tuple(sorted(squares)))
        return 0


class BackTest(PlansTest):
    def test_any_pairs(self):
        self.assertEqual(back([]), ())
        self.assertEqual(back(()), ())
        self.assertEqual(back([(1, "a"), (None, [2])]), (([2], None), ("a", 1)))
        self.assertEqual(back((((0, 0), (1, 1)), ((True, 0), ())),), (((), (True, 0)), ((1, 1), (0, 0))))

    def test_twice(self):
        for _, plan in bodies_with_plans():
            self.assertEqual(back(back(plan)), plan)
            self.assertEqual(back(list(plan)), tuple((end, start) for start, end in reversed(plan)))


class MovedPlanTest(PlansTest):
    def test_moved(self):
        self.assertEqual(moved_plan((), (5, 5)), ())
        self.assertEqual(moved_plan([((0, 0), (1, -1))], (-3, 4)), (((-3, 4), (-2, 3)),))
        self.assertEqual(moved_plan(PLAN, (0, 0)), PLAN)
        told = (((LARGE + 1, 2 - FAR), (LARGE + 2, 2 - FAR)),)
        self.assertEqual(moved_plan((((1, 2), (2, 2)),), (LARGE, -FAR)), told)

    def test_pairs_need_be_no_moves(self):
        plan = (((0, 0), (9, 9)), ((0, 0), (0, 0)))
        self.assertEqual(moved_plan(plan, (1, 0)), (((1, 0), (10, 9)), ((1, 0), (1, 0))))

    def test_no_tuple_of_two_integers(self):
        for value in NO_CELLS:
            self.assert_error((BadCell, value), moved_plan, PLAN, value)
            self.assert_error((BadCell, value), moved_plan, (), value)


class FactsTest(PlansTest):
    def test_the_plan_backward_leads_back(self):
        for body, plan in bodies_with_plans():
            end = end_of(body, plan)
            self.assertEqual(bodies_of(end, back(plan)), bodies_of(body, plan)[::-1])

    def test_plans_one_behind_the_other(self):
        for body, plan in bodies_with_plans():
            end = end_of(body, plan)
            other = plan_for(end, 7, len(body))
            self.assert_plan(body, plan + other, end_of(end, other))
            self.assert_plan(body, plan + back(plan), body)

    def test_moved_plans(self):
        for body, plan in bodies_with_plans():
            for by in ((3, -8), (-FAR, FAR)):
                self.assert_plan(moved(body, by), moved_plan(plan, by), moved(end_of(body, plan), by))
                wrong = plan[1:] + plan[:1]
                self.assertEqual(first_wrong(moved(body, by), moved_plan(wrong, by)), first_wrong(body, wrong))


class LimitsTest(PlansTest):
    def test_many_moves(self):
        for body in (spiral(40), ring(11, 11), block(5, 8)):
            plan = plan_for(body, 400, 3)
            there_and_back = (plan + back(plan)) * 25
            self.assertEqual(len(there_and_back), 20000)
            self.assert_plan(body, there_and_back, body)
            self.assert_wrong(body, there_and_back[:-1] + (((0, 0), (0, 0)),), 19999)

    def test_large_bodies(self):
        for body in large_bodies().values():
            plan = plan_for(body, 50, 5)
            there_and_back = (plan + back(plan)) * 20
            self.assertEqual(len(there_and_back), 2000)
            self.assert_plan(body, there_and_back, body)
            self.assert_wrong(body, there_and_back + (((0, 0), (0, 0)),), 2000)
