"""Points [39] to [44]: small bodies."""

from tests import helper
from tests.helper import NO_BODIES, NO_NUMBERS, Case, drawn_plan, image, row, shape_at_zero, spiral

from slideinto.bodies import frame_of, is_body, moved, shape_of
from slideinto.errors import BadBody, BadNumber
from slideinto.joining import plan_between
from slideinto.moves import done, moves_of
from slideinto.plans import end_of, first_wrong
from slideinto.small import Least, all_shapes, farthest, layers, least_plan

FAR = 10 ** 30
LARGE = 10 ** 5000


def column(many):
    return tuple((0, up) for up in range(many))


def distances_by_moves(shape):
    """The distances of shapes, by all moves of all bodies, one move further each time."""
    distances = {shape: 0}
    layer = [shape]
    while layer:
        found = []
        for body in layer:
            for start, end in moves_of(body):
                near = shape_at_zero(set(body) - {start} | {end})
                if near not in distances:
                    distances[near] = distances[body] + 1
                    found.append(near)
        layer = found
    return distances


class ShapesTest(Case):
    def test_numbers_of_shapes(self):
        self.assertEqual([len(all_shapes(n)) for n in range(1, 8)], [1, 2, 6, 19, 63, 216, 760])

    def test_told_shapes(self):
        self.assertEqual(all_shapes(1), (((0, 0),),))
        self.assertEqual(all_shapes(n=2), (((0, 0), (0, 1)), ((0, 0), (1, 0))))
        self.assertEqual(
            all_shapes(3),
            (
                ((0, 0), (0, 1), (0, 2)), ((0, 0), (0, 1), (1, 0)), ((0, 0), (0, 1), (1, 1)),
                ((0, 0), (1, 0), (1, 1)), ((0, 0), (1, 0), (2, 0)), ((0, 1), (1, 0), (1, 1)),
            ),
        )

    def test_all_of_them_ascending_and_each_once(self):
        shapes = helper.all_shapes(7)
        for n in range(1, 8):
            told = all_shapes(n)
            self.assertIs(type(told), tuple)
            self.assertEqual(told, tuple(sorted(set(shape for shape in shapes if len(shape) == n))))
            for shape in told:
                self.assertTrue(is_body(shape))
                self.assertEqual(shape_of(shape), shape)

    def test_turned_and_mirrored(self):
        for n in range(1, 8):
            told = set(all_shapes(n))
            for shape in told:
                for way in range(8):
                    self.assertIn(shape_of(image(shape, way)), told)

    def test_no_number_from_one_to_seven(self):
        for value in NO_NUMBERS + (0, 8, -1, 100, LARGE):
            self.assert_error((BadNumber, "n", value), all_shapes, value)


class LayersTest(Case):
    def test_few_squares(self):
        self.assertEqual(layers(((4, -9),)), ((((0, 0),),),))
        self.assertEqual(layers(row(2)), ((row(2),), (column(2),)))
        self.assertEqual(layers(body=column(2)), ((column(2),), (row(2),)))
        self.assertEqual([len(layer) for layer in layers(row(3))], [1, 4, 1])
        self.assertEqual(layers(row(3))[2], (column(3),))

    def test_against_the_distances_by_moves(self):
        for n in range(1, 8):
            for shape in all_shapes(n) if n < 5 else all_shapes(n)[::150] if n == 7 else all_shapes(n)[::31]:
                distances = distances_by_moves(shape)
                told = layers(shape)
                self.assertIs(type(told), tuple)
                self.assertEqual(told[0], (shape,))
                self.assertEqual(len(told), max(distances.values()) + 1)
                for distance, layer in enumerate(told):
                    shapes = tuple(sorted(place for place in distances if distances[place] == distance))
                    self.assertEqual(layer, shapes)

    def test_a_body_and_its_shape(self):
        for shape in (row(3), spiral(5), spiral(7)):
            for by in ((3, -8), (-LARGE, FAR)):
                self.assertEqual(layers(moved(shape, by)), layers(shape))

    def test_errors_in_their_order(self):
        for value in NO_BODIES + (tuple((2 * k, 0) for k in range(9)),):
            self.assert_error((BadBody, value), layers, value)
        for many in (8, 9, 40):
            self.assert_error((BadNumber, "n", many), layers, spiral(many))


class LeastPlanTest(Case):
    def assert_least(self, body, other):
        told = least_plan(body, other)
        self.assertIsInstance(told, Least)
        self.assertIs(type(told.plan), tuple)
        self.assertIs(type(told.by), tuple)
        self.assertEqual(end_of(body, told.plan), moved(other, told.by))
        distance = [index for index, layer in enumerate(layers(body)) if shape_of(other) in layer]
        self.assertEqual([len(told.plan)], distance)

    def test_the_same_shape(self):
        for body in (((3, 4),), row(2), spiral(7)):
            self.assertEqual((least_plan(body, body).plan, least_plan(body, body).by), ((), (0, 0)))
            told = least_plan(body, moved(body, (-7, LARGE)))
            self.assertEqual((told.plan, told.by), ((), (7, -LARGE)))

    def test_told_bodies(self):
        told = least_plan(other=column(2), body=row(2))
        self.assertEqual(len(told.plan), 1)
        self.assert_least(row(2), column(2))
        self.assert_least(moved(row(7), (FAR, 3)), moved(column(7), (2, -FAR)))
        self.assert_least(spiral(7), row(7))

    def test_all_pairs_of_few_squares(self):
        for n in range(1, 5):
            for body in all_shapes(n):
                for other in all_shapes(n):
                    self.assert_least(moved(body, (3, -2)), other)

    def test_pairs_of_seven_squares(self):
        shapes = all_shapes(7)
        for k in range(0, 760, 95):
            self.assert_least(shapes[k], moved(shapes[759 - 3 * k // 4], (-5, k)))

    def test_created_by_place_and_by_name(self):
        self.assertEqual((Least(1, 2).plan, Least(1, 2).by), (1, 2))
        self.assertEqual((Least(by=1, plan=2).plan, Least(by=1, plan=2).by), (2, 1))

    def test_errors_in_their_order(self):
        for value in NO_BODIES:
            self.assert_error((BadBody, value), least_plan, value, row(2))
            self.assert_error((BadBody, value), least_plan, value, None)
            self.assert_error((BadBody, value), least_plan, row(2), value)
            self.assert_error((BadBody, value), least_plan, row(8), value)
        self.assert_error((BadNumber, "n", 8), least_plan, row(8), row(8))
        self.assert_error((BadNumber, "n", 8), least_plan, row(8), row(9))
        self.assert_error((BadNumber, "n", 8), least_plan, row(8), row(7))
        self.assert_error((BadNumber, "n", 8), least_plan, row(7), row(8))
        self.assert_error((BadNumber, "n", 2), least_plan, row(3), row(2))
        self.assert_error((BadNumber, "n", 3), least_plan, row(2), row(3))


class FarthestTest(Case):
    def test_few_squares(self):
        self.assertEqual(farthest(1), (0, ((0, 0),), ((0, 0),)))
        self.assertEqual(farthest(n=2), (1, column(2), row(2)))

    def test_the_least_pair_of_the_greatest_distance(self):
        for n in range(1, 6):
            pairs = []
            for body in all_shapes(n):
                distances = distances_by_moves(body)
                pairs += [(-distances[other], body, other) for other in distances]
            distance, body, other = min(pairs)
            told = farthest(n)
            self.assertEqual(told, (-distance, body, other))
            self.assertEqual([type(value) for value in told], [int, tuple, tuple])
            self.assertTrue(n == 1 or told[1] < told[2])

    def test_no_number_from_one_to_five(self):
        for value in NO_NUMBERS + (0, 6, 7, -1, LARGE):
            self.assert_error((BadNumber, "n", value), farthest, value)


class FactsTest(Case):
    def test_each_shape_in_just_one_layer(self):
        for n in range(1, 8):
            for body in all_shapes(n)[::40] + all_shapes(n)[-1:]:
                told = [shape for layer in layers(body) for shape in layer]
                self.assertEqual(tuple(sorted(told)), all_shapes(n))

    def test_distances_in_both_directions_turned_and_mirrored(self):
        shapes = all_shapes(5)
        tables = {body: self.distances(body) for body in shapes}
        for one in shapes:
            for two in shapes:
                self.assertEqual(tables[one][two], tables[two][one])
                for way in range(8):
                    self.assertEqual(
                        tables[shape_of(image(one, way))][shape_of(image(two, way))], tables[one][two]
                    )
                for third in shapes[::7]:
                    self.assertLessEqual(tables[one][two], tables[one][third] + tables[third][two])

    def distances(self, body):
        return {shape: index for index, layer in enumerate(layers(body)) for shape in layer}

    def test_moves_between_layers(self):
        for body in (row(6), spiral(6), spiral(7)):
            distances = self.distances(body)
            for shape, distance in distances.items():
                near = [distances[shape_of(done(shape, *move))] for move in moves_of(shape)]
                self.assertEqual(min(near), distance - 1 if distance else min(near))
                self.assertGreaterEqual(min(near), distance - 1)

    def test_plans_are_no_shorter_than_the_distance(self):
        for n in range(2, 7):
            body = spiral(n)
            distances = self.distances(body)
            for seed in range(1, 12):
                plan = drawn_plan(body, 8, seed, moves_of, done)
                for many in range(9):
                    self.assertLessEqual(distances[shape_of(end_of(body, plan[:many]))], many)
            for other in all_shapes(n)[::9]:
                self.assertLessEqual(distances[other], len(plan_between(body, moved(other, (2, 1)))))


class LimitsTest(Case):
    def test_seven_squares(self):
        for body in (row(7), column(7), spiral(7), moved(all_shapes(7)[400], (FAR, LARGE))):
            told = layers(body)
            self.assertEqual(sum(map(len, told)), 760)
            for other in told[-1]:
                plan = least_plan(body, other).plan
                self.assertEqual(len(plan), len(told) - 1)
                self.assertIsNone(first_wrong(body, plan))
        self.assertEqual(frame_of(layers(row(7))[-1][0]), (0, 0, 0, 6))
