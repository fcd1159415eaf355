"""Points [45] to [49]: shorter plans."""

from tests.helper import NO_BODIES, NO_CELLS, Case, all_shapes, block, carved, drawn_plan, grown, image, plain_kind
from tests.helper import ring, rolled, row, spiral

from slideinto.bodies import moved
from slideinto.errors import BadBody, NotKept
from slideinto.joining import crawl, plan_between, row_plan
from slideinto.moves import done, moves_of
from slideinto.plans import back, bodies_of, end_of, first_wrong, moved_plan
from slideinto.shorter import few_moves, joined, shorter, tightened, without_returns
from slideinto.walks import walk

FAR = 10 ** 30
LARGE = 10 ** 5000

ALL = (without_returns, joined, tightened, shorter)


def plan_for(body, many, seed):
    return drawn_plan(body, many, seed, moves_of, done)


def bodies_with_plans():
    bodies = all_shapes(5)[1:] + [ring(3, 3), block(3, 3), spiral(12), rolled(), carved(5, 5, 15, 2), grown(12, 3)]
    for seed, body in enumerate(bodies):
        for many in (5, 30) if len(body) < 6 else (8, 40, 90):
            yield body, plan_for(body, many, 7 * seed + many)
    for one, two in ((ring(3, 3), row(8)), (spiral(9), block(3, 3)), (row(6), image(row(6), 1))):
        yield one, plan_between(one, moved(two, (3, -1)))


def plain_without_returns(body, plan):
    bodies, told, index = bodies_of(body, plan), [], 0
    while True:
        index = max(k for k in range(len(bodies)) if bodies[k] == bodies[index])
        if index == len(plan):
            return tuple(told)
        told.append(plan[index])
        index += 1


def plain_joined(body, plan):
    """All stretches are looked at anew from the first one on behind each replacement."""
    while True:
        starts = [k for k in range(len(plan)) if k == 0 or plan[k - 1][1] != plan[k][0]] + [len(plan)]
        for first, behind in zip(starts, starts[1:]):
            other = walk(end_of(body, plan[:first]), plan[first][0], plan[behind - 1][1])
            if len(other) < behind - first:
                plan = plan[:first] + other + plan[behind:]
                break
        else:
            return tuple(plan)


def plain_few_moves(body, other):
    """The least of the shortest plans among all of two moves."""
    if body == other:
        return ()
    moves = moves_of(body)
    for move in moves:
        if done(body, *move) == other:
            return (move,)
    for move in moves:
        behind = done(body, *move)
        for after in moves_of(behind):
            if done(behind, *after) == other:
                return (move, after)
    return None


def plain_tightened(body, plan):
    """All moves are looked at anew from the beginning behind each replacement."""
    while True:
        bodies = bodies_of(body, plan)
        for first, many in [(k, many) for k in range(len(plan)) for many in (2, 3) if k + many <= len(plan)]:
            fewer = few_moves(bodies[first], bodies[first + many])
            if fewer is not None and len(fewer) < many:
                plan = plan[:first] + fewer + plan[first + many:]
                break
        else:
            return tuple(plan)


def plain_shorter(body, plan):
    while True:
        told = plain_tightened(body, plain_joined(body, plain_without_returns(body, plan)))
        if len(told) == len(plan):
            return told
        plan = told


class ShorterTest(Case):
    def assert_told(self, call, body, plan, told):
        for passed in (tuple(plan), list(plan)):
            answer = call(body, passed)
            self.assertEqual(answer, told)
            self.assertIs(type(answer), tuple)
        self.assertEqual(call(plan=plan, body=body), told)

    def assert_both(self, call, plain):
        changed = 0
        for body, plan in bodies_with_plans():
            told = plain(body, plan)
            self.assert_told(call, body, plan, told)
            changed += told != plan
        self.assertGreater(changed, 10)


class ErrorsTest(ShorterTest):
    def test_no_moves(self):
        for call in ALL:
            for body in (((0, 0),), row(2), ring(3, 3)):
                self.assert_told(call, body, (), ())
                self.assert_told(call, body, [], ())

    def test_bad_body_first(self):
        for call in ALL:
            for value in NO_BODIES:
                self.assert_error((BadBody, value), call, value, ())
                self.assert_error((BadBody, value), call, value, [((0, 0), (1, 1))])
                self.assert_error((BadBody, value), call, value, [(None, None)])

    def test_no_plan(self):
        body = row(4)
        plan = plan_for(body, 6, 3)
        for call in ALL:
            for index in range(7):
                for pair in ((None, None), ((9, 9), (9, 8)), ((1, 0), (1, 0))):
                    wrong = plan[:index] + (pair,) + plan[index:]
                    self.assertEqual(first_wrong(body, wrong), index)
                    self.assert_error((NotKept, "plan", index), call, body, wrong)
                    self.assert_error((NotKept, "plan", index), call, body, list(wrong))
            for value in NO_CELLS:
                self.assert_error((NotKept, "plan", 0), call, body, [(value, (1, 1)), None])
                self.assert_error((NotKept, "plan", 1), call, body, [((0, 0), (1, 1)), ((1, 1), value)])
            self.assert_error((NotKept, "plan", 0), call, ((0, 0),), [((0, 0), (1, 1))])

    def test_what_is_passed_stays_as_it_is(self):
        body = ring(3, 3)
        plan = list(plan_for(body, 20, 9))
        for call in ALL:
            call(body, plan)
        self.assertEqual(plan, list(plan_for(body, 20, 9)))


class WithoutReturnsTest(ShorterTest):
    def test_plans_that_never_return(self):
        for body, plan in ((row(4), crawl((0, 0), 4, 3)), (row(3), row_plan((0, 0), (3, 5), 3))):
            self.assertEqual(len(set(bodies_of(body, plan))), len(plan) + 1)
            self.assert_told(without_returns, body, plan, plan)

    def test_once(self):
        plan = crawl((0, 0), 3, 2)
        there = plan_for(end_of(row(3), plan[:2]), 5, 1)
        self.assert_told(without_returns, row(3), plan[:2] + there + back(there) + plan[2:], plan)

    def test_to_the_first_body(self):
        for body, plan in bodies_with_plans():
            self.assert_told(without_returns, body, plan + back(plan), ())
            move = moves_of(body)[-1]
            told = without_returns(body, plan + back(plan) + (move,))
            self.assertEqual(told, (move,))

    def test_the_last_place_counts(self):
        # The first body stands three times: what lies between is left out, whatever else returns there.
        one, two, three = (((0, 0), (1, 1)), ((1, 1), (0, 0))), (((1, 0), (0, 1)), ((0, 1), (1, 0))), ((0, 0), (1, -1))
        self.assert_told(without_returns, row(2), one + two + (three,), (three,))
        self.assert_told(without_returns, row(2), one + two + one, ())
        plan = one + two + one[:1] + (one[1], one[0])
        self.assert_told(without_returns, row(2), plan, one[:1])

    def test_against_the_words(self):
        self.assert_both(without_returns, plain_without_returns)


class JoinedTest(ShorterTest):
    def test_stretches_that_no_walk_shortens(self):
        for body, plan in ((row(4), crawl((0, 0), 4, 3)), (row(2), (((0, 0), (1, 1)),))):
            self.assert_told(joined, body, plan, plan)
        # As long as the walk, and not the same: it stays.
        other = (((0, 0), (1, 1)), ((1, 1), (2, 0)))
        self.assertNotEqual(walk(row(2), (0, 0), (2, 0)), other)
        self.assert_told(joined, row(2), other, other)

    def test_a_detour(self):
        detour = (((0, 0), (1, 1)), ((1, 1), (2, 1)), ((2, 1), (3, 0)), ((3, 0), (2, -1)), ((2, -1), (1, -1)))
        self.assertIsNone(first_wrong(row(3), detour))
        self.assert_told(joined, row(3), detour, (((0, 0), (1, -1)),))
        self.assert_told(joined, row(3), detour[:2] + back(detour[:2]), ())

    def test_several_in_one_plan(self):
        by = (3, 0)
        detour = (((0, 0), (1, -1)), ((1, -1), (0, 0)), ((0, 0), (1, 1)), ((1, 1), (2, 1)), ((2, 1), (3, 0)))
        self.assertEqual(end_of(row(3), detour), moved(row(3), (1, 0)))
        plan = detour + moved_plan(detour, (1, 0)) + moved_plan(detour, (2, 0))
        told = tuple(detour[2:]) + moved_plan(detour[2:], (1, 0)) + moved_plan(detour[2:], (2, 0))
        self.assertEqual(end_of(row(3), plan), moved(row(3), by))
        straight = walk(row(3), (0, 0), (3, 0))
        self.assert_told(joined, row(3), plan, straight + moved_plan(straight, (1, 0)) + moved_plan(straight, (2, 0)))
        self.assert_told(joined, row(3), told, told)

    def test_a_new_stretch_by_a_replacement(self):
        # The second square goes there and back: without it the first one goes on, and is back at its start.
        there, other = ((0, 0), (1, 1)), ((2, 0), (2, 1))
        body = ((0, 0), (1, 0), (2, 0))
        self.assertEqual(plain_kind(end_of(body, (there,)), *other), "slide")
        plan = (there, other, other[::-1], there[::-1])
        self.assert_told(joined, body, plan, ())
        plan = (there, other, other[::-1], ((1, 1), (2, 1)))
        self.assert_told(joined, body, plan, (there, ((1, 1), (2, 1))))
        plan = (there, other, other[::-1], ((1, 1), (2, 1)), ((2, 1), (3, 0)), ((3, 0), (2, -1)), ((2, -1), (1, -1)))
        self.assert_told(joined, body, plan, (((0, 0), (1, -1)),))

    def test_against_the_words(self):
        self.assert_both(joined, plain_joined)

    def test_walks_put_in_by_the_words(self):
        for body in (ring(3, 3), spiral(8), row(5)):
            for seed in range(1, 9):
                plan = ()
                for many in range(6):
                    place = end_of(body, plan)
                    there = plan_for(place, 3 + many, seed)
                    plan += there + back(there) + plan_for(place, 1, seed + many)
                self.assert_told(joined, body, plan, plain_joined(body, plan))


class FewMovesTest(ShorterTest):
    def assert_few(self, body, other, told):
        self.assertEqual(few_moves(body, other), told)
        self.assertIs(type(few_moves(other=other, body=body)), type(told))

    def test_told_bodies(self):
        self.assert_few(row(3), row(3), ())
        self.assert_few(((5, 5),), ((5, 5),), ())
        self.assert_few(((5, 5),), ((5, 6),), None)
        self.assert_few(row(2), ((1, 0), (1, 1)), (((0, 0), (1, 1)),))
        self.assert_few(row(2), moved(row(2), (1, 0)), (((0, 0), (1, -1)), ((1, -1), (2, 0))))
        self.assert_few(row(3), moved(row(3), (1, 0)), None)
        self.assert_few(row(3), moved(row(3), (FAR, LARGE)), None)

    def test_unlike_numbers_of_squares(self):
        self.assert_few(row(2), row(3), None)
        self.assert_few(row(3), row(2), None)
        self.assert_few(((0, 0),), row(2), None)

    def test_the_least_of_several(self):
        told = few_moves(block(2, 2), moved(block(2, 2), (1, 0)))
        self.assertEqual(told, plain_few_moves(block(2, 2), moved(block(2, 2), (1, 0))))
        several = 0
        for body in all_shapes(5)[20:]:
            plans = {}
            for move in moves_of(body):
                behind = done(body, *move)
                for after in moves_of(behind):
                    plans.setdefault(done(behind, *after), []).append((move, after))
            for other in plans:
                if len(plans[other]) > 1 and len(few_moves(body, other)) == 2:
                    self.assertEqual(few_moves(body, other), min(plans[other]))
                    several += 1
        self.assertGreater(several, 50)

    def test_all_bodies_within_three_moves(self):
        counts = {}
        for body in [ring(3, 3), spiral(9), row(4), rolled()] + all_shapes(4)[1:]:
            near = {body}
            for _ in range(2):
                near |= {done(place, *move) for place in near for move in moves_of(place)}
            near |= {done(place, *moves_of(place)[k % 3]) for k, place in enumerate(sorted(near))}
            for other in sorted(near):
                told = plain_few_moves(body, other)
                self.assert_few(body, other, told)
                counts[told if told is None else len(told)] = 1
        self.assertEqual(set(counts), {None, 0, 1, 2})

    def test_by_two_squares_in_an_order(self):
        # Only one of the two squares can go first.
        body = ((0, 0), (0, 1), (0, 2), (1, 0))
        for other in {done(done(body, *one), *two) for one in moves_of(body) for two in moves_of(done(body, *one))}:
            self.assert_few(body, other, plain_few_moves(body, other))

    def test_far_away(self):
        by = (-LARGE, FAR)
        told = few_moves(row(2), moved(row(2), (1, 0)))
        self.assertEqual(few_moves(moved(row(2), by), moved(moved(row(2), (1, 0)), by)), moved_plan(told, by))

    def test_errors_in_their_order(self):
        for value in NO_BODIES:
            self.assert_error((BadBody, value), few_moves, value, row(2))
            self.assert_error((BadBody, value), few_moves, value, None)
            self.assert_error((BadBody, value), few_moves, row(2), value)


class TightenedTest(ShorterTest):
    def test_two_moves_become_one_or_none(self):
        plan = (((0, 0), (1, 1)), ((1, 1), (0, 0)))
        self.assert_told(tightened, row(2), plan, ())
        body = block(2, 3)
        plan = (((0, 0), (-1, 1)), ((-1, 1), (-1, 2)))
        self.assert_told(tightened, body, plan, plain_tightened(body, plan))

    def test_two_ahead_of_three_at_one_index(self):
        body = ((-1, -1), (-1, 0), (-1, 1), (0, -1), (0, 0), (1, -1), (1, 0))
        plan = (((0, 0), (0, 1)), ((1, 0), (0, 0)), ((-1, -1), (-2, 0)))
        bodies = bodies_of(body, plan)
        self.assertEqual(few_moves(bodies[0], bodies[2]), (((1, 0), (0, 1)),))
        self.assertEqual(few_moves(bodies[0], bodies[3]), (((-1, -1), (-2, 0)), ((1, 0), (0, 1))))
        # The three at once would become the lesser plan, but the two come first, and nothing is shorter then.
        self.assert_told(tightened, body, plan, (((1, 0), (0, 1)), ((-1, -1), (-2, 0))))

    def test_three_ahead_of_two_at_a_greater_index(self):
        body = ((-1, -1), (-1, 0), (-1, 1), (0, -1), (0, 0), (1, -1), (1, 0))
        for seed in range(1, 120):
            plan = plan_for(body, 12, seed)
            self.assert_told(tightened, body, plan, plain_tightened(body, plan))

    def test_the_least_index_first(self):
        for seed in range(1, 150):
            body = all_shapes(5)[40 + seed % 40]
            plan = plan_for(body, 10, seed)
            self.assert_told(tightened, body, plan, plain_tightened(body, plan))

    def test_against_the_words(self):
        self.assert_both(tightened, plain_tightened)

    def test_a_replacement_that_makes_way_for_one_ahead(self):
        plan = ()
        for seed in range(1, 8):
            there = plan_for(row(4), seed, seed)
            plan += there + back(there)
        self.assert_told(tightened, row(4), plan, ())


class WholeTest(ShorterTest):
    def test_against_the_words(self):
        self.assert_both(shorter, plain_shorter)

    def test_a_long_way_round(self):
        plan = plan_between(row(4), moved(row(4), (1, 0)))
        told = shorter(row(4), plan)
        self.assertEqual(end_of(row(4), told), moved(row(4), (1, 0)))
        self.assertLess(len(told), len(plan))


class FactsTest(ShorterTest):
    def test_plans_with_the_same_end_and_never_longer(self):
        for body, plan in bodies_with_plans():
            for call in ALL:
                told = call(body, plan)
                self.assertIsNone(first_wrong(body, told))
                self.assertEqual(end_of(body, told), end_of(body, plan))
                self.assertLessEqual(len(told), len(plan))
                self.assertEqual(call(body, told), told)

    def test_no_body_stands_twice(self):
        for body, plan in bodies_with_plans():
            for call in (without_returns, shorter):
                bodies = bodies_of(body, call(body, plan))
                self.assertEqual(len(set(bodies)), len(bodies))

    def test_no_moves_that_fewer_could_replace(self):
        for body, plan in bodies_with_plans():
            for call in (tightened, shorter):
                told = call(body, plan)
                bodies = bodies_of(body, told)
                for many in (1, 2, 3):
                    for first in range(len(told) - many + 1):
                        fewer = few_moves(bodies[first], bodies[first + many])
                        self.assertTrue(fewer is None or len(fewer) >= many)

    def test_far_away(self):
        by = (LARGE, -FAR)
        for body in (ring(3, 3), spiral(7)):
            plan = plan_for(body, 30, 4)
            for call in ALL:
                self.assertEqual(call(moved(body, by), moved_plan(plan, by)), moved_plan(call(body, plan), by))


class LimitsTest(ShorterTest):
    def test_a_thousand_moves_of_forty_squares(self):
        for body, other in ((grown(40, 3), spiral(40)), (ring(11, 11), row(40)), (spiral(40), block(5, 8))):
            drawn = plan_for(body, 300, 7)
            plans = [plan_for(body, 1000, 5), plan_between(body, other)[:1000], (drawn + back(drawn[50:]))[:1000]]
            for plan in plans:
                for call in ALL:
                    told = call(body, plan)
                    self.assertEqual(end_of(body, told), end_of(body, plan))

    def test_one_square_there_and_back(self):
        plan = crawl((0, 0), 40, 12)
        self.assert_told(shorter, row(40), (plan + back(plan))[:960], ())
        self.assert_told(joined, row(40), plan + back(plan), ())
