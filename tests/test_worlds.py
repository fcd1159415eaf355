"""Points [57] to [63]: worlds, their stories, and bodies that meet."""

from tests.helper import NO_CELLS, NO_NUMBERS, Case, all_shapes, block, carved, drawn, grown, image, plain_parts, ring
from tests.helper import rolled, row, spiral

from slideinto.bodies import body_of, moved
from slideinto.errors import BadBody, BadCell, BadNumber, NoMove, NotThere
from slideinto.joining import bound_between, column_at, plan_between
from slideinto.moves import done, moves_of
from slideinto.plans import back, bodies_of, end_of, first_wrong
from slideinto.rows import plan_to_row
from slideinto.worlds import World, many_between, meet, played, refused, upright_moves

FAR = 10 ** 30
LARGE = 10 ** 5000

BODY = ((0, 0), (1, 0), (2, 0), (2, 1))
TARGET = ((5, 5), (5, 6), (6, 5), (6, 6))

# Lists that are no bodies, with the error of body_of for each.
NO_LISTS = [
    ([(0, 0), None], (BadCell, None)),
    ([(0, 0), (0, True), 5], (BadCell, (0, True))),
    (((3, 3), [3, 4]), (BadCell, [3, 4])),
    ([], (BadBody, ())),
    ((), (BadBody, ())),
    ([(5, 0), (0, 0), (0, 0)], (BadBody, ((0, 0), (5, 0)))),
    ([(1, 1), (0, 0), (1, 1)], (BadBody, ((0, 0), (1, 1)))),
]


def plain_plan(body, target):
    """The plan between two bodies up to the first body that is the target."""
    plan = plan_between(body, target)
    return plan[:bodies_of(body, plan).index(target)]


def state(world):
    return world.body, world.target, world.history(), world.plan(), world.is_there(), world.bound()


class PlainWorld:
    """What the document says of a World, with the plan as a list of what is left of it."""

    def __init__(self, body, target):
        self.body, self.target, self.left, self.moves = body, target, None, ()

    def do(self, deed):
        if deed[0] == "move":
            self.body = done(self.body, *deed[1:])
            self.moves += (deed[1:],)
            self.left = None
        elif deed[0] == "aim":
            self.target = body_of(deed[1])
            self.left = None
        else:
            if self.left is None:
                self.left = plain_plan(self.body, self.target)
            now, self.left = self.left[:deed[1]], self.left[deed[1]:]
            self.body = end_of(self.body, now)
            self.moves += now
            return len(now)

    def plan(self):
        return plain_plan(self.body, self.target) if self.left is None else self.left


def do(world, deed):
    return getattr(world, deed[0])(*deed[1:])


def drawn_deeds(body, targets, many, seed):
    """Deeds that look as if they came by chance, none of which raises an error."""
    world = PlainWorld(body, targets[0])
    deeds = []
    number = seed
    for _ in range(many):
        number = drawn(number)
        choice = (number >> 8) % 8
        if choice < 2:
            moves = moves_of(world.body)
            deed = ("move", *moves[(number >> 12) % len(moves)])
        elif choice < 4:
            deed = ("aim", targets[(number >> 12) % len(targets)])
        else:
            deed = ("go", (0, 1, 2, 3, 10, 5000)[(number >> 12) % 6])
        world.do(deed)
        deeds.append(deed)
    return tuple(deeds)


def lists_of_bodies():
    """Bodies, each with targets of as many squares."""
    yield row(2), [row(2, (3, 3)), column_at((0, 0), 2), row(2)]
    yield BODY, [TARGET, row(4), column_at((-3, 2), 4), BODY]
    yield ring(3, 3), [moved(row(8), (4, -2)), moved(spiral(8), (1, 1)), block(4, 2), moved(ring(3, 3), (1, 0))]
    yield spiral(12), [grown(12, 3), ring(4, 4), moved(block(4, 3), (-9, 9))]
    yield rolled(), [moved(rolled(), (2, 2)), row(len(rolled()))]


class NewWorldTest(Case):
    def test_attributes(self):
        world = World(BODY, TARGET)
        self.assertEqual((world.body, world.target), (BODY, TARGET))
        self.assertEqual(state(World(target=TARGET, body=BODY)), state(world))

    def test_cells_in_any_order_and_twice(self):
        for kind in (list, tuple):
            world = World(kind(BODY[::-1] + BODY), kind(TARGET[2:] + TARGET))
            self.assertEqual((world.body, world.target), (BODY, TARGET))
            self.assertIs(type(world.body), tuple)
            self.assertIs(type(world.target), tuple)
            self.assertIsNone(world.aim(kind(BODY[::-1] * 2)))
            self.assertEqual(world.target, BODY)

    def test_what_is_passed_stays_as_it_is(self):
        body, target = list(BODY[::-1]), list(TARGET[::-1])
        world = World(body, target)
        world.go(100)
        world.aim(body)
        world.go(5)
        self.assertEqual((body, target), (list(BODY[::-1]), list(TARGET[::-1])))

    def test_errors_of_the_body_come_first(self):
        for cells, error in NO_LISTS:
            self.assert_error(error, World, cells, TARGET)
            self.assert_error(error, World, cells, row(3))
            self.assert_error(error, World, BODY, cells)
            for others, _ in NO_LISTS:
                self.assert_error(error, World, cells, others)
                self.assert_error(error, World, target=others, body=cells)

    def test_another_number_of_squares(self):
        for target in (row(3), list(row(3)) * 2, row(5), ((9, 9),), row(1)):
            self.assert_error((BadNumber, "squares", len(set(target))), World, BODY, target)
        self.assert_error((BadNumber, "squares", 2), World, ((0, 0),), row(2))

    def test_one_square(self):
        self.assert_error((BadBody, ((0, 1),)), World, ((0, 0),), [(0, 1), (0, 1)])
        world = World([(3, -3)], ((3, -3), (3, -3)))
        self.assertEqual(state(world), (((3, -3),), ((3, -3),), (), (), True, 0))
        self.assertEqual(world.go(9), 0)
        self.assert_error((BadBody, ((3, -2),)), world.aim, [(3, -2)])
        self.assertIsNone(world.aim([(3, -3)]))
        for end in ((3, -2), (4, -2), (2, -3)):
            self.assert_error((NoMove, (3, -3), end), world.move, (3, -3), end)


class MoveTest(Case):
    def test_a_move(self):
        world = World(BODY, TARGET)
        self.assertIsNone(world.move((2, 1), (1, 1)))
        self.assertEqual(world.body, ((0, 0), (1, 0), (1, 1), (2, 0)))
        self.assertIsNone(world.move(end=(2, 1), start=(1, 1)))
        self.assertEqual(world.body, BODY)
        self.assertEqual(world.history(), (((2, 1), (1, 1)), ((1, 1), (2, 1))))

    def test_errors_change_nothing(self):
        for many in (0, 3):
            world = World(BODY, TARGET)
            world.go(many)
            before = state(world)
            square, empty = world.body[0], (50, 50)
            for value in NO_CELLS:
                self.assert_error((BadCell, value), world.move, value, (1, 1))
                self.assert_error((BadCell, value), world.move, value, None)
                self.assert_error((BadCell, value), world.move, square, value)
                self.assert_error((BadCell, value), world.move, empty, value)
            self.assert_error((NotThere, empty), world.move, empty, (51, 50))
            self.assert_error((NotThere, empty), world.move, empty, empty)
            self.assert_error((NoMove, square, (9, 9)), world.move, square, (9, 9))
            self.assert_error((NoMove, square, square), world.move, square, square)
            self.assertEqual(state(world), before)

    def test_a_move_that_is_refused_keeps_the_plan(self):
        world = World(BODY, TARGET)
        plan = world.plan()
        world.go(4)
        self.assertNotEqual(plan[4:], plain_plan(world.body, TARGET))
        self.assert_error((NotThere, (50, 50)), world.move, (50, 50), (51, 50))
        self.assert_error((BadNumber, "squares", 1), world.aim, [(0, 0)])
        self.assertEqual(world.plan(), plan[4:])


class GoTest(Case):
    def test_no_numbers(self):
        world = World(BODY, TARGET)
        world.go(2)
        before = state(world)
        for value in NO_NUMBERS + (-1, -LARGE):
            self.assert_error((BadNumber, "many", value), world.go, value)
        self.assertEqual(state(world), before)

    def test_nothing(self):
        world = World(BODY, TARGET)
        before = state(world)
        self.assertEqual(world.go(0), 0)
        self.assertEqual(world.go(many=0), 0)
        self.assertEqual(state(world), before)

    def test_portions(self):
        plan = plain_plan(BODY, TARGET)
        for portion in (1, 3, 7, len(plan) - 1, len(plan), len(plan) + 1, LARGE):
            world = World(BODY, TARGET)
            many = 0
            while many < len(plan):
                self.assertEqual(world.plan(), plan[many:])
                told = world.go(portion)
                self.assertEqual(told, min(portion, len(plan) - many))
                many += told
                self.assertEqual(world.history(), plan[:many])
                self.assertEqual(world.body, end_of(BODY, plan[:many]))
                self.assertIs(world.is_there(), many == len(plan))
            self.assertEqual((world.body, world.plan()), (TARGET, ()))
            self.assertEqual(world.go(5), 0)

    def test_the_plan_is_kept_behind_portions(self):
        world = World(BODY, TARGET)
        plan = world.plan()
        world.go(4)
        self.assertEqual(world.plan(), plan[4:])
        self.assertNotEqual(plain_plan(world.body, TARGET), plan[4:])

    def test_an_aim_drops_the_plan(self):
        for target in (TARGET, TARGET[::-1], moved(TARGET, (1, 0))):
            world = World(BODY, TARGET)
            world.go(4)
            self.assertIsNone(world.aim(target=target))
            self.assertEqual(world.plan(), plain_plan(world.body, body_of(target)))

    def test_a_move_drops_the_plan(self):
        world = World(BODY, TARGET)
        plan = world.plan()
        world.go(4)
        world.move(*plan[4])
        self.assertEqual(world.plan(), plain_plan(world.body, TARGET))
        self.assertNotEqual(world.plan(), plan[5:])

    def test_up_to_the_first_body_that_is_the_target(self):
        cut = 0
        for body in all_shapes(4):
            for other in all_shapes(4):
                if len(body) == len(other) > 1:
                    for by in ((0, 0), (1, 0), (0, 1), (4, 0)):
                        target = moved(other, by)
                        world = World(body, target)
                        self.assertEqual(world.plan(), plain_plan(body, target))
                        cut += len(world.plan()) < len(plan_between(body, target))
                        self.assertEqual(world.go(LARGE), len(world.history()))
                        self.assertEqual(world.body, target)
                        self.assertNotIn(target, bodies_of(body, world.history())[:-1])
        self.assertGreater(cut, 10)

    def test_the_body_is_the_target(self):
        world = World(BODY, BODY)
        self.assertEqual(state(world), (BODY, BODY, (), (), True, 0))
        self.assertEqual(world.go(3), 0)
        world.move((2, 1), (1, 1))
        self.assertIs(world.is_there(), False)
        self.assertEqual(world.go(LARGE), len(world.history()) - 1)
        self.assertIs(world.is_there(), True)


class AimTest(Case):
    def test_errors_change_nothing(self):
        for many in (0, 3):
            world = World(BODY, TARGET)
            world.go(many)
            before = state(world)
            for cells, error in NO_LISTS:
                self.assert_error(error, world.aim, cells)
                self.assert_error(error, world.aim, target=cells)
            self.assert_error((BadNumber, "squares", 3), world.aim, row(3))
            self.assert_error((BadNumber, "squares", 5), world.aim, list(row(5)) * 2)
            self.assertEqual(state(world), before)

    def test_bound(self):
        world = World(BODY, TARGET)
        self.assertEqual(world.bound(), bound_between(BODY, TARGET))
        world.go(3)
        self.assertEqual(world.bound(), bound_between(world.body, TARGET))
        world.aim(BODY)
        self.assertEqual(world.bound(), bound_between(world.body, BODY))
        world.go(LARGE)
        self.assertEqual(world.bound(), 0)


class FactsTest(Case):
    def test_rows_of_deeds(self):
        for seed, (body, targets) in enumerate(lists_of_bodies()):
            for turn in range(6):
                deeds = drawn_deeds(body, targets, 12, 100 * seed + turn)
                world = World(body, targets[0])
                plain = PlainWorld(body, targets[0])
                for deed in deeds:
                    self.assertEqual(do(world, deed), plain.do(deed))
                    self.assertEqual((world.body, world.target), (plain.body, plain.target))
                    self.assertEqual(world.plan(), plain.plan())
                    self.assertEqual(world.history(), plain.moves)
                    self.assertIs(world.is_there(), plain.body == plain.target)
                    self.assertEqual(world.bound(), bound_between(plain.body, plain.target))
                self.assertEqual(state(played(body, targets[0], deeds)), state(world))
                self.assertIsNone(refused(body, targets[0], deeds))
                self.assert_facts(body, world)

    def assert_facts(self, body, world):
        history = world.history()
        self.assertIsNone(first_wrong(body, history))
        for place in bodies_of(body, history):
            self.assertEqual(len(plain_parts(place)), 1)
        self.assertEqual(end_of(body, history), world.body)
        self.assertEqual(end_of(world.body, back(history)), body)
        world.aim(world.target)
        self.assertLessEqual(len(world.plan()), world.bound())
        world.go(len(world.plan()))
        self.assertEqual(world.body, world.target)

    def test_telling_changes_nothing(self):
        world = World(BODY, TARGET)
        world.go(2)
        self.assertEqual([state(world) for _ in range(3)], [state(world)] * 3)
        self.assertIs(type(world.history()), tuple)
        self.assertIs(type(world.plan()), tuple)


class PlayedTest(Case):
    def test_each_deed(self):
        deeds = (("move", (2, 1), (1, 1)), ("go", 3), ("aim", [(9, 9), (9, 8), (9, 9), (9, 7), (9, 6)]), ("go", LARGE))
        world = played(BODY, TARGET, deeds)
        self.assertIsInstance(world, World)
        self.assertEqual(world.body, ((9, 6), (9, 7), (9, 8), (9, 9)))
        self.assertEqual(world.history()[0], ((2, 1), (1, 1)))
        self.assertEqual(state(played(deeds=deeds, target=list(TARGET), body=BODY[::-1])), state(world))
        self.assertIsNone(refused(deeds=deeds, target=TARGET, body=BODY))
        self.assertEqual(state(played(BODY, TARGET, ())), state(World(BODY, TARGET)))
        self.assertIsNone(refused(BODY, TARGET, ()))

    def test_no_deeds(self):
        wrong = [
            None, 5, "go", [], [("go", 1)], (None,), ("go", 1), (("go", 1), None), (["go", 1],), ((),), (("stop", 1),),
            (("go",),), (("go", 1, 2),), (("move", (0, 0)),), (("move", (0, 0), (1, 1), 3),), (("aim",),),
            (("aim", BODY, BODY),), ((5, 1),), (("",),), (("Go", 1),), (("go", 1), ("go",)), ((None, 1),),
            ((("go",), 1),), ((["go"], 1),), {}, (("move",),), ("move",),
        ]
        for deeds in wrong:
            for call in (played, refused):
                self.assert_error((BadNumber, "deeds", deeds), call, BODY, TARGET, deeds)
                self.assert_error((BadNumber, "deeds", deeds), call, deeds=deeds, body=BODY, target=TARGET)

    def test_errors_of_the_making_come_first(self):
        for call in (played, refused):
            for deeds in (None, (("go", -1),), ()):
                for cells, error in NO_LISTS:
                    self.assert_error(error, call, cells, TARGET, deeds)
                    self.assert_error(error, call, BODY, cells, deeds)
                self.assert_error((BadNumber, "squares", 3), call, BODY, row(3), deeds)
                self.assert_error((BadBody, ((0, 1),)), call, [(0, 0)], [(0, 1)], deeds)

    def test_wrong_deeds_come_ahead_of_what_is_refused(self):
        deeds = (("go", -1), ("move", (50, 50), (1, 1)), ("stop",))
        for call in (played, refused):
            self.assert_error((BadNumber, "deeds", deeds), call, BODY, TARGET, deeds)

    def test_each_word(self):
        for deed, error, word in (
            (("move", None, (0, 0)), (BadCell, None), "cell"),
            (("move", (0, 0), 5), (BadCell, 5), "cell"),
            (("aim", [(0, 0), None]), (BadCell, None), "cell"),
            (("aim", [(0, 0), (5, 5), (0, True)]), (BadCell, (0, True)), "cell"),
            (("move", (50, 50), (51, 50)), (NotThere, (50, 50)), "there"),
            (("move", (0, 0), (1, 0)), (NoMove, (0, 0), (1, 0)), "move"),
            (("aim", [(0, 0), (5, 5), (7, 7), (9, 9)]), (BadBody, ((0, 0), (5, 5), (7, 7), (9, 9))), "body"),
            (("aim", ()), (BadBody, ()), "body"),
            (("aim", row(3)), (BadNumber, "squares", 3), "number"),
            (("go", -1), (BadNumber, "many", -1), "number"),
            (("go", True), (BadNumber, "many", True), "number"),
            (("go", None), (BadNumber, "many", None), "number"),
        ):
            for ahead in ((), (("move", (0, 0), (1, 1)), ("move", (1, 1), (0, 0)))):
                deeds = ahead + (deed, ("go", -5))
                self.assert_error(error, played, BODY, TARGET, deeds)
                self.assertEqual(refused(BODY, TARGET, deeds), (len(ahead), word))
        self.assertEqual(refused([(0, 0)], [(0, 0)], (("go", 3), ("aim", [(0, 1)]))), (1, "body"))

    def test_what_was_done_ahead_counts(self):
        deeds = (("go", LARGE), ("move", (2, 1), (1, 1)))
        self.assertEqual(refused(BODY, TARGET, deeds), (1, "there"))
        self.assertEqual(refused(BODY, BODY, deeds), None)

    def test_what_is_passed_stays_as_it_is(self):
        cells = [(9, 9), (9, 8), (9, 7), (9, 6)]
        played(BODY, TARGET, (("aim", cells), ("go", 5)))
        refused(BODY, TARGET, (("aim", cells), ("go", 5)))
        self.assertEqual(cells, [(9, 9), (9, 8), (9, 7), (9, 6)])


def plain_meet(bodies):
    told = []
    for cells in bodies:
        target = body_of(cells)
        plans = tuple(plan_between(body_of(other), target) for other in bodies)
        told.append((sum(map(len, plans)), len(told), target, plans))
    return min(told)[2:]


class MeetTest(Case):
    def assert_met(self, bodies):
        told = meet(bodies)
        self.assertEqual(told, plain_meet(bodies))
        self.assertEqual(meet(bodies=tuple(bodies)), told)
        target, plans = told
        self.assertEqual((type(told), type(target), type(plans)), (tuple, tuple, tuple))
        for cells, plan in zip(bodies, plans):
            self.assertEqual(end_of(body_of(cells), plan), target)

    def test_one(self):
        self.assertEqual(meet([BODY]), (BODY, ((),)))
        self.assertEqual(meet((list(BODY[::-1]) * 2,)), (BODY, ((),)))
        self.assertEqual(meet([[(3, 4)]]), (((3, 4),), ((),)))

    def test_equal_ones(self):
        self.assertEqual(meet([BODY, BODY[::-1], list(BODY)]), (BODY, ((), (), ())))
        self.assertEqual(meet([[(3, 4)], ((3, 4), (3, 4))]), (((3, 4),), ((), ())))
        self.assert_met([BODY, TARGET, BODY, row(4)])

    def test_the_first_of_several(self):
        self.assertEqual(meet([BODY, TARGET])[0], BODY)
        self.assertEqual(meet([TARGET, BODY])[0], TARGET)
        self.assertEqual(meet([TARGET[::-1], BODY, BODY, TARGET])[0], TARGET)

    def test_several(self):
        for many in (2, 3, 4, 5):
            shapes = [body for body in all_shapes(many) if len(body) == many]
            for by in ((0, 0), (7, 3), (-3, -9)):
                bodies = [moved(body, (k * by[0], k * by[1])) for k, body in enumerate(shapes[::3])]
                self.assert_met(bodies[:6])
                self.assert_met(bodies[5::-1])
        for seed in range(1, 5):
            bodies = [carved(5, 5, 14, seed), moved(grown(14, seed), (9, -seed)), moved(row(14), (-20, 30)), spiral(14)]
            self.assert_met(bodies)
            self.assert_met([image(body, seed) for body in bodies])

    def test_the_moves_are_counted_rightly(self):
        """The plans to all but the told target are not made, so what is counted for them is looked at here."""
        for many in (2, 3, 4, 7):
            shapes = [body for body in all_shapes(4) if len(body) == many] or [grown(7, seed) for seed in range(1, 6)]
            for one in shapes[::2]:
                for two in shapes[1::2]:
                    for by in ((0, 0), (0, 1), (1, 0), (9, -1), (-9, 0), (3, 8), (-3, -8)):
                        other = moved(two, by)
                        told = many_between(plan_to_row(one), plan_to_row(other), upright_moves(many))
                        self.assertEqual(told, len(plan_between(one, other)))

    def test_no_bodies(self):
        wrong = [
            None, 5, "", "ab", (), [], {}, [None], [5], ["ab"], [""], [()], [[]], [BODY, None], [BODY, row(3)],
            [row(3), BODY], [BODY, ()], [BODY, [(0, 0), (2, 2), (5, 5), (7, 7)]], [BODY, list(BODY) + [None]],
            [BODY, list(BODY[:3]) + [(2, True)]], [[(0, 0)], [(0, 1)]], [[(0, 0)], [(0, 0)], [(1, 0)]],
            [[(0, 0)], BODY],
            (BODY, {}), [None, BODY], BODY, [dict.fromkeys(BODY)], [(0, 0)],
        ]
        for bodies in wrong:
            self.assert_error((BadNumber, "bodies", bodies), meet, bodies)

    def test_what_is_passed_stays_as_it_is(self):
        bodies = [list(BODY[::-1]), list(TARGET)]
        meet(bodies)
        self.assertEqual(bodies, [list(BODY[::-1]), list(TARGET)])


class LimitsTest(Case):
    def test_forty_squares_in_a_wide_frame(self):
        corner = (159, 159)
        bodies = [spiral(40), grown(40, 5), carved(8, 8, 40, 3), column_at((0, 0), 40), row(40), block(5, 8)]
        for body in bodies:
            world = World(body, moved(body[::-1], corner))
            many = len(world.plan())
            self.assertLessEqual(many, world.bound())
            self.assertEqual(world.go(many), many)
            self.assertIs(world.is_there(), True)
        target, plans = meet([moved(body, (k * 20, 150 - k * 30)) for k, body in enumerate(bodies)])
        self.assertEqual(len(plans), 6)

    def test_many_small_steps(self):
        world = World(row(40), moved(column_at((0, 0), 40), (60, 60)))
        many = 0
        while not world.is_there():
            many += world.go(1)
        self.assertEqual(len(world.history()), many)
