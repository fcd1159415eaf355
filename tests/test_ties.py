"""Points [50] to [56]: steps with witnesses, ties and orders."""

import itertools

from tests.helper import NO_CELLS, SIDES, Case, add, all_shapes, block, carved, cells_beside, drawn, drawn_plan, grown
from tests.helper import large_bodies, many_bodies, plain_kind, plain_parts, ring, row, spiral

from slideinto.bodies import free_squares, moved
from slideinto.errors import BadBody, BadNumber, NotKept, NotThere
from slideinto.joining import crawl, plan_between
from slideinto.moves import done, kind_of, moves_of
from slideinto.plans import bodies_of, end_of, first_wrong, moved_plan
from slideinto.ties import Step, are_tied, first_broken, first_loose, holds, in_order, order_by, plan_of, reads_of
from slideinto.ties import rounds_of, steps_of, ties_of, witness_of

FAR = 10 ** 30
LARGE = 10 ** 5000

BODY = ((0, 0), (1, 0), (2, 0), (2, 1))
SLIDE = ((2, 1), (1, 1), ((1, 0), (2, 0)), ((2, 0),))
TURN = ((2, 1), (3, 0), ((2, 0),), ((2, 0),))


def plan_for(body, many, seed):
    return drawn_plan(body, many, seed, moves_of, done)


def bodies_with_steps(many):
    for seed, body in enumerate(many_bodies()):
        if len(body) > 1:
            yield body, steps_of(body, plan_for(body, many, seed + 1))


def facts(step):
    return (step.start, step.end, step.support, step.witness)


def with_change(step, **named):
    return Step(**{**vars(step), **named})


def plain_holds(body, step):
    squares = set(body)
    beside = cells_beside(step.start) & cells_beside(step.end)
    way = (step.end[0] - step.start[0], step.end[1] - step.start[1])
    if step.start not in squares or step.end in squares or not set(step.support) <= squares:
        return False
    if way in SIDES:
        crosswise = [side for side in SIDES if side[0] * way[0] + side[1] * way[1] == 0]
        if step.support not in [tuple(sorted((add(step.start, n), add(step.end, n)))) for n in crosswise]:
            return False
    elif abs(way[0]) != 1 or abs(way[1]) != 1 or [(cell,) for cell in beside & squares] != [step.support]:
        return False
    witness = set(step.witness)
    if not witness <= squares - {step.start} or len(plain_parts(witness)) != 1:
        return False
    return cells_beside(step.start) & squares <= witness


def plain_witness(body, start):
    rest = set(body) - {start}
    around = sorted(cells_beside(start) & rest)
    far = {around[0]: 0}
    while len(far) < len(rest):
        layer = {cell: many + 1 for place, many in far.items() for cell in cells_beside(place) & rest - set(far)}
        far.update(layer)
    told = set(around)
    for cell in around:
        while cell != around[0]:
            cell = min(near for near in cells_beside(cell) & rest if far[near] == far[cell] - 1)
            told.add(cell)
    return tuple(sorted(told))


def plain_reads(step):
    return {step.start, step.end, *cells_beside(step.start), *step.support, *step.witness}


def plain_tied(one, two):
    return bool({one.start, one.end} & plain_reads(two) or {two.start, two.end} & plain_reads(one))


def plain_ties(steps):
    pairs = itertools.combinations(range(len(steps)), 2)
    return tuple((i, j) for i, j in pairs if plain_tied(steps[i], steps[j]))


def plain_order_by(steps, numbers):
    ties = plain_ties(steps)
    order = []
    while len(order) < len(steps):
        left = [k for k in range(len(steps)) if k not in order]
        ready = [k for k in left if all(i in order for i, j in ties if j == k)]
        number = numbers[len(order)] if len(order) < len(numbers) else 0
        order.append(ready[number % len(ready)])
    return tuple(order)


def plain_rounds(steps):
    ties = plain_ties(steps)
    place = {}
    for k in range(len(steps)):
        place[k] = max((place[i] + 1 for i, j in ties if j == k), default=0)
    return tuple(tuple(k for k in place if place[k] == n) for n in range(max(place.values(), default=-1) + 1))


def keeps(ties, order):
    return all(order.index(i) < order.index(j) for i, j in ties)


def numbers_drawn(many, seed):
    numbers = [seed]
    for _ in range(many):
        numbers.append(drawn(numbers[-1]))
    return [number >> 8 for number in numbers[1:]]


class StepTest(Case):
    def test_attributes(self):
        step = Step(*SLIDE)
        self.assertEqual(vars(step), dict(zip(("start", "end", "support", "witness"), SLIDE)))
        self.assertEqual(vars(Step(witness=4, support=3, end=2, start=1)), dict(start=1, end=2, support=3, witness=4))


class HoldsTest(Case):
    def assert_holds(self, body, *told):
        self.assertIs(holds(body, Step(*told)), True, told)

    def assert_not(self, body, *told):
        self.assertIs(holds(body, Step(*told)), False, told)

    def test_a_slide_and_a_turn(self):
        self.assert_holds(BODY, *SLIDE)
        self.assert_holds(BODY, *TURN)
        self.assertIs(holds(step=Step(*TURN), body=BODY), True)

    def test_more_witness_than_is_needed(self):
        for witness in (((1, 0), (2, 0)), ((0, 0), (1, 0), (2, 0))):
            self.assert_holds(BODY, *SLIDE[:3], witness)
            self.assert_holds(BODY, *TURN[:3], witness)

    def test_start_is_empty(self):
        self.assert_not(BODY[:3], *SLIDE)
        self.assert_not(BODY[:3], *TURN)

    def test_end_is_a_square(self):
        body = ((0, 0), (1, 0), (1, 1), (2, 0), (2, 1))
        self.assert_not(body, (2, 1), (1, 1), ((1, 0), (2, 0)), ((1, 0), (1, 1), (2, 0)))
        body = ((1, 0), (2, 0), (2, 1), (3, 0))
        self.assert_not(body, *TURN)

    def test_end_is_far_away(self):
        self.assert_not(BODY, (2, 1), (0, 1), ((0, 0), (2, 0)), ((2, 0),))
        self.assert_not(BODY, (2, 1), (0, 1), ((1, 0), (2, 0)), ((2, 0),))
        self.assert_not(BODY, (2, 1), (4, 0), ((2, 0),), ((2, 0),))
        self.assert_not(BODY, (2, 1), (3, -1), ((2, 0),), ((2, 0),))
        self.assert_not(BODY, (2, 1), (LARGE, 1), ((2, 0),), ((2, 0),))
        self.assert_not(((2, -1), (2, 0), (2, 1)), (2, 1), (3, -1), ((2, -1),), ((2, -1), (2, 0)))
        self.assert_not(((0, 0), (1, 0), (2, 0), (2, 1)), (0, 0), (2, 2), ((2, 0),), ((1, 0), (2, 0), (2, 1)))

    def test_wrong_support_of_a_slide(self):
        for support in (((1, 2), (2, 2)), ((2, 0), (1, 0)), (), ((1, 0),), ((2, 0),), ((0, 0), (1, 0), (2, 0))):
            self.assert_not(BODY, *SLIDE[:2], support, SLIDE[3])
        self.assert_not(((1, 1), (2, 0), (2, 1)), (2, 1), (2, 2), ((1, 1), (1, 2)), ((2, 0),))
        self.assert_not(((2, 0), (2, 1), (3, 0)), (2, 1), (1, 1), ((1, 0), (2, 0)), ((2, 0),))

    def test_both_supports_of_a_slide(self):
        body = ((0, 0), (0, 1), (0, 2), (1, 0), (1, 2), (2, 0), (2, 1), (2, 2))
        witness = tuple(sorted(set(body) - {(2, 1)}))
        self.assert_holds(body, (2, 1), (1, 1), ((1, 0), (2, 0)), witness)
        self.assert_holds(body, (2, 1), (1, 1), ((1, 2), (2, 2)), witness)
        self.assert_not(body, (2, 1), (1, 1), ((1, 0), (2, 2)), witness)
        self.assert_not(body, (2, 1), (1, 1), ((1, 0), (1, 2), (2, 0), (2, 2)), witness)

    def test_wrong_support_of_a_turn(self):
        for support in (((3, 1),), (), ((1, 0),), ((2, 0), (3, 1)), ((1, 0), (2, 0))):
            self.assert_not(BODY, *TURN[:2], support, TURN[3])

    def test_both_cells_beside_a_turn_are_squares(self):
        body = set(block(4, 4)) - {(3, 1)}
        for gone, call in (((3, 2), self.assert_holds), (None, self.assert_not)):
            place = tuple(sorted(body - {gone}))
            call(place, (2, 2), (3, 1), ((2, 1),), tuple(sorted(body - {gone, (2, 2)})))

    def test_neither_cell_beside_a_turn_is_a_square(self):
        self.assert_not(BODY, (0, 0), (-1, 1), ((-1, 0),), ((1, 0),))
        self.assert_not(BODY, (0, 0), (-1, 1), (), ((1, 0),))

    def test_wrong_witnesses(self):
        for told in (SLIDE, TURN):
            self.assert_not(BODY, *told[:3], ())
            self.assert_not(BODY, *told[:3], ((2, 0), (2, 1)))
            self.assert_not(BODY, *told[:3], ((2, 0), (3, 0)))
            self.assert_not(BODY, *told[:3], ((2, -1), (2, 0)))
            self.assert_not(BODY, *told[:3], ((0, 0), (2, 0)))
            self.assert_not(BODY, *told[:3], ((1, 0),))
            self.assert_not(BODY, *told[:3], ((0, 0), (1, 0)))

    def test_a_witness_that_leaves_a_neighbour_out(self):
        body = ((0, 0), (0, 1), (1, 0), (1, 1))
        told = ((1, 1), (2, 0), ((1, 0),))
        self.assert_holds(body, *told, ((0, 0), (0, 1), (1, 0)))
        for witness in (((0, 1),), ((1, 0),), ((0, 0), (0, 1)), ((0, 0), (1, 0)), ((0, 1), (1, 0))):
            self.assert_not(body, *told, witness)

    def test_far_away(self):
        by = (LARGE, -FAR)
        told = [moved((cell,), by)[0] for cell in SLIDE[:2]] + [moved(cells, by) for cells in SLIDE[2:]]
        self.assert_holds(moved(BODY, by), *told)
        self.assert_not(BODY, *told)

    def test_changed_steps(self):
        met = [0, 0]
        for body, steps in bodies_with_steps(3):
            bodies = bodies_of(body, plan_of(steps))
            for place in bodies[:-1]:
                for step in steps:
                    cells = sorted(plain_reads(step) | {step.support[0]})
                    for changed in self.changes(step, cells):
                        self.assertIs(holds(place, changed), plain_holds(place, changed), (place, facts(changed)))
                        met[holds(place, changed)] += 1
        self.assertGreater(min(met), 1000)

    def changes(self, step, cells):
        yield step
        for cell in cells[::3]:
            yield with_change(step, start=cell)
            yield with_change(step, end=cell)
            yield with_change(step, support=tuple(sorted({cell} | set(step.support[1:]))))
            yield with_change(step, witness=tuple(sorted({cell} ^ set(step.witness))))


class FirstLooseTest(Case):
    def test_none(self):
        self.assertIsNone(first_loose(BODY, ()))
        self.assertIsNone(first_loose(BODY, []))
        self.assertIsNone(first_loose(BODY, [Step(*SLIDE)]))
        self.assertIsNone(first_loose(steps=(Step(*TURN),), body=BODY))

    def test_the_first_index(self):
        self.assertEqual(first_loose(BODY, [Step(*SLIDE), Step(*SLIDE)]), 1)
        self.assertEqual(first_loose(BODY, (Step(*TURN[:3], ()), Step(*SLIDE[:3], ()))), 0)
        for body, steps in bodies_with_steps(8):
            for index in range(0, 8, 3):
                wrong = with_change(steps[index], witness=())
                self.assertEqual(first_loose(body, steps[:index] + (wrong,) + steps[index:]), index)
                self.assertEqual(first_loose(body, list(steps[:index]) + [wrong] * 2), index)

    def test_what_is_passed_stays_as_it_is(self):
        steps = [Step(*SLIDE), Step(*TURN)]
        first_loose(BODY, steps)
        for call in (plan_of, ties_of, rounds_of):
            call(steps)
        first_broken(steps, [0, 1])
        self.assertEqual([facts(step) for step in steps], [SLIDE, TURN])


class PlanOfTest(Case):
    def test_the_moves(self):
        self.assertEqual(plan_of(()), ())
        self.assertEqual(plan_of([Step(*SLIDE), Step(*TURN)]), (SLIDE[:2], TURN[:2]))
        self.assertEqual(plan_of(steps=(Step((0, 0), (5, 5), (), ()),)), (((0, 0), (5, 5)),))


class WitnessTest(Case):
    def test_one_neighbour(self):
        self.assertEqual(witness_of(BODY, (0, 0)), ((1, 0),))
        self.assertEqual(witness_of(row(2), (1, 0)), ((0, 0),))
        self.assertEqual(witness_of(start=(2, 1), body=BODY), ((2, 0),))

    def test_the_root_is_the_least_neighbour(self):
        self.assertEqual(witness_of(block(2, 2), (1, 1)), ((0, 0), (0, 1), (1, 0)))
        self.assertEqual(witness_of(ring(3, 3), (1, 0)), tuple(sorted(set(ring(3, 3)) - {(1, 0)})))

    def test_the_least_of_several_ways(self):
        # From (2, 1) two ways lead to the root (0, 1), by (2, 0) and by (2, 2).
        self.assertEqual(witness_of(block(3, 3), (1, 1)), ((0, 0), (0, 1), (0, 2), (1, 0), (1, 2), (2, 0), (2, 1)))
        self.assertEqual(witness_of(block(4, 4), (3, 0)), ((2, 0), (2, 1), (3, 1)))

    def test_against_the_plain_telling(self):
        bodies = many_bodies() + [carved(6, 6, 22, seed) for seed in range(1, 12)]
        for body in bodies:
            for square in free_squares(body):
                self.assertEqual(witness_of(body, square), plain_witness(body, square))

    def test_far_away(self):
        by = (-FAR, LARGE)
        self.assertEqual(witness_of(moved(ring(3, 3), by), moved(((1, 2),), by)[0]),
                         moved(witness_of(ring(3, 3), (1, 2)), by))

    def test_start_is_no_square(self):
        for value in NO_CELLS + ((5, 5), (1, 1), (LARGE, 0)):
            self.assert_error((NotThere, value), witness_of, BODY, value)
            self.assert_error((NotThere, value), witness_of, ((0, 0),), value)
        self.assert_error((NotThere, (True, 0)), witness_of, row(2), (True, 0))

    def test_a_cut_square(self):
        self.assert_error((BadBody, ((0, 0), (2, 0), (2, 1))), witness_of, BODY, (1, 0))
        self.assert_error((BadBody, ((0, 0), (1, 0), (2, 1))), witness_of, BODY, (2, 0))

    def test_the_only_square(self):
        self.assert_error((BadBody, ()), witness_of, ((3, -3),), (3, -3))


class StepsOfTest(Case):
    def test_slides_and_turns(self):
        self.assertEqual([facts(step) for step in steps_of(BODY, [SLIDE[:2]])], [SLIDE])
        self.assertEqual([facts(step) for step in steps_of(BODY, (TURN[:2],))], [TURN])
        self.assertEqual(steps_of(BODY, ()), ())
        self.assertEqual(steps_of(plan=[], body=BODY), ())

    def test_a_slide_between_two_pairs(self):
        body = ((0, 0), (0, 1), (0, 2), (1, 0), (1, 2), (2, 0), (2, 1), (2, 2))
        step, = steps_of(body, [((2, 1), (1, 1))])
        self.assertEqual(step.support, ((1, 0), (2, 0)))
        step, = steps_of(body, [((0, 1), (1, 1))])
        self.assertEqual(step.support, ((0, 0), (1, 0)))
        step, = steps_of(body, [((1, 0), (1, 1))])
        self.assertEqual(step.support, ((0, 0), (0, 1)))

    def test_against_the_plain_telling(self):
        for seed, body in enumerate(many_bodies()):
            plan = plan_for(body, 10, seed + 3) if len(body) > 1 else ()
            steps = steps_of(body, list(plan))
            self.assertIs(type(steps), tuple)
            self.assertEqual(plan_of(steps), plan)
            for place, step in zip(bodies_of(body, plan), steps):
                self.assertIsInstance(step, Step)
                self.assertEqual(step.witness, plain_witness(place, step.start))
                supports = self.supports(place, step)
                self.assertEqual(step.support, min(supports))

    def supports(self, body, step):
        choices = list(itertools.combinations(sorted(set(body) - {step.start}), 2))
        choices += [(square,) for square in body]
        near = [told for told in choices if all(abs(cell[0] - step.start[0]) < 2 for cell in told)]
        return [told for told in near if plain_holds(body, with_change(step, support=told))]

    def test_no_plan(self):
        plan = plan_for(BODY, 5, 3)
        for pair in (((9, 9), (9, 8)), (None, None), ((9, 9), None)):
            self.assert_error((NotKept, "plan", 0), steps_of, BODY, (pair,) + plan)
            self.assert_error((NotKept, "plan", 5), steps_of, BODY, list(plan) + [pair])
        self.assert_error((NotKept, "plan", 0), steps_of, ((0, 0),), [((0, 0), (1, 1))])

    def test_what_holds_is_a_move(self):
        for body, steps in bodies_with_steps(6):
            self.assertIsNone(first_loose(body, steps))
            for place, step in zip(bodies_of(body, plan_of(steps)), steps):
                self.assertEqual(kind_of(place, step.start, step.end), plain_kind(place, step.start, step.end))
                self.assertIsNotNone(kind_of(place, step.start, step.end))

    def test_joined_plans(self):
        for body, other in ((ring(4, 4), spiral(12)), (block(3, 3), row(9)), (carved(5, 5, 15, 3), grown(15, 2))):
            plan = plan_between(body, other)
            steps = steps_of(body, plan)
            self.assertEqual(plan_of(steps), plan)
            self.assertIsNone(first_loose(body, steps))


class TiesTest(Case):
    def test_reads(self):
        told = ((1, 0), (1, 1), (2, 0), (2, 1), (2, 2), (3, 1))
        self.assertEqual(reads_of(Step(*SLIDE)), told)
        self.assertEqual(reads_of(step=Step(*TURN)), ((1, 1), (2, 0), (2, 1), (2, 2), (3, 0), (3, 1)))
        wide = Step((0, 0), (1, 1), ((0, 1),), ((-5, 5), (0, 1), (7, -7)))
        self.assertEqual(reads_of(wide), ((-5, 5), (-1, 0), (0, -1), (0, 0), (0, 1), (1, 0), (1, 1), (7, -7)))

    def test_reads_of_many(self):
        for _, steps in bodies_with_steps(5):
            for step in steps:
                self.assertEqual(reads_of(step), tuple(sorted(plain_reads(step))))

    def test_are_tied(self):
        one = Step((0, 0), (1, 1), ((0, 1),), ((0, 1), (0, 2)))
        for told in (((0, 2), (-1, 1), (), ()), ((-3, 2), (0, 2), (), ()), ((0, -1), (5, 5), (), ())):
            self.assertIs(are_tied(one, Step(*told)), True)
            self.assertIs(are_tied(Step(*told), one), True)
        for told in (((5, 5), (6, 6), (), ()), ((1, 3), (2, 2), ((0, 3),), ((0, 2), (0, 3)))):
            self.assertIs(are_tied(one, Step(*told)), False)
            self.assertIs(are_tied(two=one, one=Step(*told)), False)

    def test_only_one_of_both_reads(self):
        one = Step((0, 0), (1, 1), ((0, 1),), ((0, 1),))
        two = Step((9, 9), (8, 8), ((8, 9),), ((1, 1), (8, 9)))
        self.assertIs(are_tied(one, two), True)
        self.assertIs(are_tied(two, one), True)

    def test_pairs(self):
        self.assertEqual(ties_of(()), ())
        self.assertEqual(ties_of([Step(*SLIDE)]), ())
        self.assertEqual(ties_of(steps=[Step(*SLIDE), Step(*SLIDE)]), ((0, 1),))
        found = 0
        for _, steps in bodies_with_steps(9):
            for i, j in itertools.combinations(range(9), 2):
                self.assertIs(are_tied(steps[i], steps[j]), plain_tied(steps[i], steps[j]))
            self.assertEqual(ties_of(list(steps)), plain_ties(steps))
            found += len(plain_ties(steps)) < 36
        self.assertGreater(found, 10)


def loose_plan():
    """Steps at both ends of a row, some of them not tied."""
    body = tuple(sorted(row(12) + ((0, 1), (11, 1), (0, 2), (11, 2))))
    plan = (
        ((0, 2), (1, 1)), ((11, 2), (10, 1)), ((1, 1), (2, 1)), ((10, 1), (9, 1)), ((0, 1), (1, 1)), ((11, 1), (12, 0)),
    )
    return body, steps_of(body, plan)


class OrdersTest(Case):
    def test_first_broken(self):
        _, steps = loose_plan()
        ties = ties_of(steps)
        self.assertEqual(ties, plain_ties(steps))
        self.assertIsNone(first_broken(steps, (0, 1, 2, 3, 4, 5)))
        self.assertIsNone(first_broken(order=[1, 0, 2, 3, 4, 5], steps=steps))
        for order in itertools.permutations(range(6)):
            wrong = [(i, j) for i, j in ties if order.index(j) < order.index(i)]
            self.assertEqual(first_broken(steps, order), wrong[0] if wrong else None)
            if wrong:
                self.assert_error((NotKept, "tie", wrong[0]), in_order, list(steps), list(order))
            else:
                self.assertEqual(in_order(steps, order), tuple(steps[index] for index in order))

    def test_no_steps(self):
        self.assertIsNone(first_broken((), ()))
        self.assertIsNone(first_broken([], []))
        self.assertEqual(in_order([], []), ())
        self.assertEqual(order_by([], [1, 2]), ())
        self.assertEqual(rounds_of([]), ())

    def test_no_orders(self):
        steps = [Step(*SLIDE), Step((9, 9), (8, 8), (), ())]
        wrong = [
            None, 5, True, "01", "", {}, {0: 0, 1: 1}, range(2), (), (0,), (1,), (0, 0), (1, 1), (0, 1, 1), (0, 1, 2),
            (0, 2), (0, -1), (-1, 0), (False, True), (0, True), (False, 1), (0, None), (0, "1"), (0, [1]), [0, (1,)],
            [1], [0, 1, 0], (0, 1.0), (0, LARGE),
        ]
        for order in wrong:
            self.assert_error((BadNumber, "order", order), first_broken, steps, order)
            self.assert_error((BadNumber, "order", order), in_order, steps, order)
        self.assert_error((BadNumber, "order", (0,)), first_broken, [], (0,))

    def test_in_order_by_name(self):
        _, steps = loose_plan()
        self.assertEqual(in_order(order=[1, 0, 2, 3, 4, 5], steps=steps)[:2], (steps[1], steps[0]))

    def test_order_by(self):
        _, steps = loose_plan()
        self.assertEqual(order_by(steps, ()), (0, 1, 2, 3, 4, 5))
        self.assertEqual(order_by(numbers=[1], steps=steps)[:2], (1, 0))
        self.assertEqual(order_by(steps, [LARGE]), plain_order_by(steps, [LARGE]))
        for seed in range(40):
            for many in (0, 1, 3, 6, 9):
                numbers = numbers_drawn(many, seed)
                order = order_by(steps, tuple(numbers))
                self.assertEqual(order, plain_order_by(steps, numbers))
                self.assertIs(type(order), tuple)

    def test_order_by_over_many_plans(self):
        for seed, (body, steps) in enumerate(bodies_with_steps(10)):
            if len(body) < 60 and seed % 3 == 0:
                numbers = numbers_drawn(8, seed)
                order = order_by(steps, numbers)
                self.assertEqual(order, plain_order_by(steps, numbers))
                self.assertIsNone(first_broken(steps, order))

    def test_rounds(self):
        _, steps = loose_plan()
        self.assertEqual(rounds_of(steps), plain_rounds(steps))
        self.assertEqual(rounds_of(steps=[Step(*SLIDE)] * 3), ((0,), (1,), (2,)))
        apart = [Step((9 * k, 0), (9 * k + 1, 1), (), ()) for k in range(5)]
        self.assertEqual(rounds_of(apart), ((0, 1, 2, 3, 4),))
        for _, steps in bodies_with_steps(12):
            self.assertEqual(rounds_of(steps), plain_rounds(steps))


class FactsTest(Case):
    def plans(self):
        yield loose_plan()
        for many, seed in itertools.product((5, 6), range(30)):
            body = (spiral(12), grown(14, seed), carved(6, 6, 18, seed), row(9))[seed % 4]
            yield body, steps_of(body, plan_for(body, many, seed))
        body = tuple(sorted(row(9) + ((0, 1), (4, 1), (8, 1))))
        yield body, steps_of(body, (((0, 1), (1, 1)), ((4, 1), (5, 1)), ((8, 1), (9, 0)), ((1, 1), (2, 1))))

    def test_every_order_that_keeps_the_ties_is_right(self):
        many = 0
        for body, steps in self.plans():
            end = end_of(body, plan_of(steps))
            ties = plain_ties(steps)
            told = {order_by(steps, numbers) for numbers in itertools.product(range(6), repeat=3)}
            orders = [order for order in itertools.permutations(range(len(steps))) if keeps(ties, order)]
            for order in orders:
                self.assertIsNone(first_broken(steps, order))
                self.assertIsNone(first_loose(body, in_order(steps, order)))
                self.assertEqual(end_of(body, plan_of(in_order(steps, order))), end)
                self.assert_cells_are_found_alike(body, steps, order)
            self.assertLessEqual(told, set(orders))
            many += len(orders)
        self.assertGreater(many, 100)

    def assert_cells_are_found_alike(self, body, steps, order):
        ahead = bodies_of(body, plan_of(steps))
        now = bodies_of(body, plan_of([steps[index] for index in order]))
        for turn, index in enumerate(order):
            for cell in reads_of(steps[index]):
                self.assertEqual(cell in now[turn], cell in ahead[index])

    def test_order_by_tells_all_that_keep_the_ties(self):
        for body, steps in self.plans():
            if len(steps) < 6:
                ties = plain_ties(steps)
                orders = {order for order in itertools.permutations(range(len(steps))) if keeps(ties, order)}
                numbers = itertools.product(*[range(many) for many in range(len(steps), 1, -1)])
                self.assertEqual({order_by(steps, told) for told in numbers}, orders)

    def test_orders_come_from_each_other_by_exchanges(self):
        for body, steps in self.plans():
            ties = plain_ties(steps)
            orders = {order for order in itertools.permutations(range(len(steps))) if keeps(ties, order)}
            met = {min(orders)}
            ahead = list(met)
            while ahead:
                order = ahead.pop()
                for k in range(len(order) - 1):
                    if tuple(sorted(order[k:k + 2])) not in ties:
                        other = order[:k] + (order[k + 1], order[k]) + order[k + 2:]
                        if other not in met:
                            met.add(other)
                            ahead.append(other)
            self.assertEqual(met, orders)

    def test_rounds(self):
        for body, steps in self.plans():
            ties = plain_ties(steps)
            rounds = rounds_of(steps)
            for lot in rounds:
                self.assertFalse([pair for pair in itertools.combinations(lot, 2) if pair in ties])
            for way in (1, -1):
                self.assertIsNone(first_broken(steps, [index for lot in rounds for index in lot[::way]]))
            longest = 0
            for many in range(len(steps) + 1):
                for chain in itertools.combinations(range(len(steps)), many):
                    if all(pair in ties for pair in zip(chain, chain[1:])):
                        longest = max(longest, many)
            self.assertEqual(len(rounds), longest)

    def test_an_order_that_breaks_a_tie_can_be_right(self):
        body = row(6)
        step = Step((0, 0), (1, 1), ((1, 0),), ((1, 0), (2, 0), (3, 0), (4, 0), (5, 0)))
        other = Step((5, 0), (4, 1), ((4, 0),), ((4, 0),))
        self.assertEqual(ties_of([step, other]), ((0, 1),))
        self.assertEqual(first_loose(body, [step, other]), None)
        self.assertEqual(first_wrong(body, plan_of([other, step])), None)


class LimitsTest(Case):
    def test_four_hundred_steps(self):
        for body in (row(200), ring(52, 50), block(10, 20), grown(200, 7), spiral(40)):
            steps = steps_of(body, plan_for(body, 400, 11))
            self.assertIsNone(first_loose(body, steps))
            ties = ties_of(steps)
            for numbers in ((), numbers_drawn(400, 5)):
                order = order_by(steps, numbers)
                self.assertIsNone(first_broken(steps, order))
                self.assertIsNone(first_loose(body, in_order(steps, order)))
            rounds = rounds_of(steps)
            self.assertEqual(sorted(index for lot in rounds for index in lot), list(range(400)))
            self.assertGreaterEqual(len(ties), 400 - len(rounds[0]))

    def test_long_plans(self):
        body = row(20)
        plan = crawl((0, 0), 20, 200)
        steps = steps_of(body, plan)
        self.assertEqual(len(steps), 4000)
        self.assertIsNone(first_loose(body, steps))
        for name, body in large_bodies().items():
            plan = plan_for(body, 100, 3)
            steps = steps_of(body, plan)
            self.assertIsNone(first_loose(body, steps), name)
            far = steps_of(moved(body, (FAR, -FAR)), moved_plan(plan, (FAR, -FAR)))
            self.assertEqual(far[-1].witness, moved(steps[-1].witness, (FAR, -FAR)))

    def test_all_small_shapes(self):
        for body in all_shapes(5)[1:]:
            for move in moves_of(body):
                self.assertIsNone(first_loose(body, steps_of(body, [move])))
