"""Points [1], [2] and [4] to [7]: bodies."""

import collections
import enum
import itertools
import unittest

from tests.helper import NO_CELLS, all_shapes, block, grown, large_bodies, many_bodies, plain_free, plain_parts, ring
from tests.helper import row, spiral

from slideinto.bodies import beside, body_of, cut_squares, frame_of, free_squares, hangs, is_body, moved
from slideinto.bodies import neighbours_of, parts_of, shape_of
from slideinto.errors import BadBody, BadCell

FAR = 10 ** 30

Place = collections.namedtuple("Place", "column row")


class Number(enum.IntEnum):
    ONE = 1
    TWO = 2


class Always:
    """A value that says it is equal to all others."""

    def __eq__(self, other):
        return True

    def __hash__(self):
        return 0


class BodiesTest(unittest.TestCase):
    def assert_bad_cell(self, cell, call, *values, **named):
        with self.assertRaises(BadCell) as caught:
            call(*values, **named)
        self.assertIs(caught.exception.cell, cell)


class BesideTest(BodiesTest):
    def test_order_of_the_sides(self):
        self.assertEqual(beside((0, 0)), ((-1, 0), (0, -1), (1, 0), (0, 1)))
        self.assertEqual(beside(cell=(-3, 7)), ((-4, 7), (-3, 6), (-2, 7), (-3, 8)))

    def test_far_away(self):
        self.assertEqual(beside((FAR, -FAR)), ((FAR - 1, -FAR), (FAR, -FAR - 1), (FAR + 1, -FAR), (FAR, 1 - FAR)))
        digits = 10 ** 5000
        self.assertEqual(beside((digits, 0))[2], (digits + 1, 0))

    def test_no_cell(self):
        for value in NO_CELLS:
            self.assert_bad_cell(value, beside, value)

    def test_told_cells_are_plain(self):
        self.assertEqual(repr(beside(Place(Number.ONE, Number.TWO))), "((0, 2), (1, 1), (2, 2), (1, 3))")


class PartsTest(BodiesTest):
    def test_no_cells(self):
        self.assertEqual(parts_of([]), ())
        self.assertEqual(parts_of(()), ())

    def test_one_part_in_any_order(self):
        cells = ((0, 0), (0, 1), (1, 1), (2, 1))
        for order in itertools.permutations(cells):
            self.assertEqual(parts_of(list(order)), (cells,))
            self.assertEqual(parts_of(order), (cells,))

    def test_the_same_cell_twice(self):
        self.assertEqual(parts_of([(1, 0), (0, 0), (1, 0), (0, 0)]), (((0, 0), (1, 0)),))
        self.assertEqual(parts_of(((5, 5), (5, 5))), (((5, 5),),))

    def test_several_parts_ascend(self):
        cells = [(3, 3), (0, 5), (2, 2), (-1, 9), (0, 4), (2, 3)]
        self.assertEqual(parts_of(cells), (((-1, 9),), ((0, 4), (0, 5)), ((2, 2), (2, 3), (3, 3))))

    def test_crosswise_cells_are_no_neighbours(self):
        self.assertEqual(parts_of(((0, 0), (1, 1))), (((0, 0),), ((1, 1),)))
        self.assertEqual(parts_of(((0, 1), (1, 0))), (((0, 1),), ((1, 0),)))

    def test_rows_do_not_join_at_their_ends(self):
        self.assertEqual(len(parts_of(((0, 9), (1, 0), (-1, 1)))), 3)

    def test_against_the_plain_parts(self):
        for body in (grown(40, 3), spiral(60), block(6, 6), large_bodies()["grown"]):
            for step in (2, 3, 5):
                cells = [cell for k, cell in enumerate(body) if k % step]
                told = tuple(sorted(tuple(sorted(part)) for part in plain_parts(cells)))
                self.assertEqual(parts_of(cells[::-1]), told)

    def test_first_item_that_is_no_cell(self):
        for value in NO_CELLS:
            for call in (parts_of, hangs, body_of):
                self.assert_bad_cell(value, call, [value])
                self.assert_bad_cell(value, call, [(0, 0), (5, 5), value, None, 7])
                self.assert_bad_cell(value, call, ((1, 0), (0, 0), value))

    def test_a_bool_beside_the_same_integers(self):
        item = (True, 0)
        for call in (parts_of, hangs, body_of):
            self.assert_bad_cell(item, call, [(1, 0), item, (0, 0)])
            self.assert_bad_cell(item, call, cells=[item, (1, 0)])

    def test_what_is_passed_stays_as_it_is(self):
        cells = [(2, 0), (0, 0), (2, 0), (1, 0)]
        parts_of(cells)
        hangs(cells)
        body_of(cells)
        self.assertEqual(cells, [(2, 0), (0, 0), (2, 0), (1, 0)])


class HangsTest(BodiesTest):
    def test_hangs(self):
        self.assertIs(hangs([]), False)
        self.assertIs(hangs(()), False)
        self.assertIs(hangs([(4, -4)]), True)
        self.assertIs(hangs([(4, -4), (4, -4)]), True)
        self.assertIs(hangs([(1, 1), (0, 0)]), False)
        self.assertIs(hangs([(1, 1), (0, 0), (1, 0)]), True)
        self.assertIs(hangs(cells=((0, 0), (2, 0))), False)

    def test_as_often_as_there_is_one_part(self):
        for count in range(7):
            for cells in itertools.combinations(block(3, 3), count):
                self.assertIs(hangs(cells), len(plain_parts(cells)) == 1)


class IsBodyTest(BodiesTest):
    def test_bodies(self):
        for body in many_bodies() + list(large_bodies().values()):
            self.assertIs(is_body(body), True)
        self.assertIs(is_body(((-FAR, FAR),)), True)
        self.assertIs(is_body(value=((0, 0), (0, 1))), True)

    def test_cells_that_are_none(self):
        self.assertIs(is_body(()), False)
        self.assertIs(is_body([(0, 0), (0, 1)]), False)
        self.assertIs(is_body(((0, 1), (0, 0))), False)
        self.assertIs(is_body(((0, 0), (0, 0))), False)
        self.assertIs(is_body(((0, 0), (0, 1), (0, 1))), False)
        self.assertIs(is_body(((0, 0), (0, 2))), False)
        self.assertIs(is_body(((0, 0), (1, 1))), False)
        self.assertIs(is_body({(0, 0): True}), False)
        self.assertIs(is_body({(0, 0)}), False)
        self.assertIs(is_body((0, 0)), False)

    def test_any_value(self):
        values = NO_CELLS + (1.5, float("nan"), b"ab", object(), object, Always(), range(3), lambda: 0, {1}, ([],))
        for value in values:
            self.assertIs(is_body(value), False)
            self.assertIs(is_body((value,)), False)
            self.assertIs(is_body(((0, 0), value)), False)
            self.assertIs(is_body((value, (0, 0))), False)
            self.assertIs(is_body((((0, 0), value),)), False)
        self.assertIs(is_body(((0, True),)), False)
        self.assertIs(is_body(((0, 0), (1, False))), False)

    def test_a_body_within_a_tuple(self):
        self.assertIs(is_body((((0, 0), (0, 1)),)), False)


class BodyOfTest(BodiesTest):
    def test_any_order_and_twice(self):
        for body in many_bodies():
            self.assertEqual(body_of(body), body)
            self.assertEqual(body_of(list(body[::-1]) + list(body[:2])), body)
        self.assertEqual(body_of(cells=[(0, 1), (0, 0)]), ((0, 0), (0, 1)))

    def test_no_body(self):
        for cells, told in (
            ([], ()),
            ((), ()),
            ([(2, 0), (0, 0), (2, 0)], ((0, 0), (2, 0))),
            (((1, 1), (0, 0)), ((0, 0), (1, 1))),
        ):
            with self.assertRaises(BadBody) as caught:
                body_of(cells)
            self.assertEqual(caught.exception.cells, told)
            self.assertIs(type(caught.exception.cells), tuple)

    def test_bad_cell_ahead_of_bad_body(self):
        self.assert_bad_cell(None, body_of, [(9, 9), (0, 0), None])

    def test_told_cells_are_plain(self):
        cells = [Place(Number.TWO, 0), Place(Number.ONE, 0)]
        self.assertEqual(repr(body_of(cells)), "((1, 0), (2, 0))")
        self.assertEqual(repr(parts_of(cells)), "(((1, 0), (2, 0)),)")
        self.assertEqual(repr(moved(((0, 0),), Place(Number.ONE, Number.TWO))), "((1, 2),)")


class NeighboursTest(BodiesTest):
    def test_of_squares_and_empty_cells(self):
        body = ((0, 0), (0, 1), (1, 0), (2, 0), (2, 1))
        self.assertEqual(neighbours_of(body, (0, 0)), ((0, 1), (1, 0)))
        self.assertEqual(neighbours_of(body, (1, 0)), ((0, 0), (2, 0)))
        self.assertEqual(neighbours_of(body, (1, 1)), ((0, 1), (1, 0), (2, 1)))
        self.assertEqual(neighbours_of(body, (1, 2)), ())
        self.assertEqual(neighbours_of(body, (-1, 1)), ((0, 1),))
        self.assertEqual(neighbours_of(body, (FAR, FAR)), ())
        self.assertEqual(neighbours_of(((0, 0),), (0, 0)), ())

    def test_all_four_ascend(self):
        body = ((-1, 0), (0, -1), (0, 0), (0, 1), (1, 0))
        self.assertEqual(neighbours_of(body, (0, 0)), ((-1, 0), (0, -1), (0, 1), (1, 0)))
        self.assertEqual(neighbours_of(cell=(0, 0), body=ring(3, 3)), ((0, 1), (1, 0)))

    def test_no_cell(self):
        for value in NO_CELLS:
            self.assert_bad_cell(value, neighbours_of, ((0, 0),), value)


class FreeTest(BodiesTest):
    def test_one_and_two(self):
        self.assertEqual(free_squares(((3, 4),)), ())
        self.assertEqual(cut_squares(((3, 4),)), ())
        self.assertEqual(free_squares(((3, 4), (3, 5))), ((3, 4), (3, 5)))
        self.assertEqual(cut_squares(((3, 4), (3, 5))), ())

    def test_told_bodies(self):
        self.assertEqual(free_squares(row(5)), ((0, 0), (4, 0)))
        self.assertEqual(cut_squares(body=row(5)), ((1, 0), (2, 0), (3, 0)))
        self.assertEqual(free_squares(body=ring(3, 3)), ring(3, 3))
        self.assertEqual(free_squares(block(3, 4)), block(3, 4))
        cross = ((-1, 0), (0, -1), (0, 0), (0, 1), (1, 0))
        self.assertEqual(cut_squares(cross), ((0, 0),))

    def test_two_rings_at_one_square(self):
        body = tuple(sorted(set(ring(3, 3)) | {(column + 2, up + 2) for column, up in ring(3, 3)}))
        self.assertEqual(cut_squares(body), ((2, 2),))

    def test_against_the_plain_count(self):
        for body in all_shapes(7) + many_bodies():
            free = plain_free(body)
            cut = tuple(square for square in body if square not in free)
            self.assertEqual(free_squares(body), free)
            self.assertEqual(cut_squares(body), cut if len(body) > 1 else ())

    def test_together_they_are_the_body(self):
        for body in many_bodies() + list(large_bodies().values()):
            if len(body) > 1:
                self.assertGreaterEqual(len(free_squares(body)), 2)
                self.assertEqual(tuple(sorted(free_squares(body) + cut_squares(body))), body)

    def test_large_bodies(self):
        bodies = large_bodies()
        self.assertEqual(free_squares(bodies["row"]), ((0, 0), (199, 0)))
        self.assertEqual(len(cut_squares(bodies["column"])), 198)
        self.assertEqual(free_squares(bodies["ring"]), bodies["ring"])
        self.assertEqual(len(free_squares(bodies["spiral"])), 2)
        self.assertEqual(cut_squares(bodies["block"]), ())
        self.assertEqual(free_squares(bodies["grown"]), plain_free(bodies["grown"]))
        self.assertEqual(free_squares(bodies["comb"]), plain_free(bodies["comb"]))

    def test_a_very_long_row(self):
        self.assertEqual(len(cut_squares(row(5000))), 4998)

    def test_far_away(self):
        body = row(3, (FAR, -FAR))
        self.assertEqual(free_squares(body), ((FAR, -FAR), (FAR + 2, -FAR)))
        self.assertEqual(cut_squares(body), ((FAR + 1, -FAR),))

    def test_told_squares_are_plain(self):
        body = (Place(Number.ONE, 0), Place(Number.TWO, 0))
        self.assertIs(is_body(body), True)
        self.assertEqual(repr(free_squares(body)), "((1, 0), (2, 0))")


class FrameTest(BodiesTest):
    def test_frame(self):
        self.assertEqual(frame_of(((3, -4),)), (3, -4, 3, -4))
        self.assertEqual(frame_of(((-2, 5), (-1, 5), (-1, 6), (-1, 7))), (-2, 5, -1, 7))
        self.assertEqual(frame_of(body=((0, 3), (1, 2), (1, 3))), (0, 2, 1, 3))
        self.assertEqual(frame_of(row(3, (-FAR, FAR))), (-FAR, FAR, 2 - FAR, FAR))
        self.assertEqual(frame_of(block(10, 20)), (0, 0, 9, 19))


class MovedTest(BodiesTest):
    def test_moved(self):
        body = ((0, 0), (0, 1), (1, 1))
        self.assertEqual(moved(body, (0, 0)), body)
        self.assertEqual(moved(body, (-5, 3)), ((-5, 3), (-5, 4), (-4, 4)))
        self.assertEqual(moved(by=(FAR, -FAR), body=body), ((FAR, -FAR), (FAR, 1 - FAR), (FAR + 1, 1 - FAR)))
        self.assertIs(is_body(moved(large_bodies()["grown"], (-1000, 7))), True)

    def test_there_and_back(self):
        for body in many_bodies():
            self.assertEqual(moved(moved(body, (-7, 10 ** 20)), (7, -10 ** 20)), body)

    def test_no_tuple_of_two_integers(self):
        for value in NO_CELLS:
            self.assert_bad_cell(value, moved, ((0, 0),), value)


class ShapeTest(BodiesTest):
    def test_shape(self):
        self.assertEqual(shape_of(((-4, 9),)), ((0, 0),))
        self.assertEqual(shape_of(((3, 6), (4, 5), (4, 6))), ((0, 1), (1, 0), (1, 1)))
        self.assertEqual(shape_of(body=((3, 6), (3, 7))), ((0, 0), (0, 1)))

    def test_shapes_are_their_own(self):
        for shape in many_bodies()[:307]:
            self.assertEqual(shape_of(shape), shape)
            self.assertEqual(shape_of(moved(shape, (FAR, -5))), shape)
            self.assertEqual(frame_of(shape_of(moved(shape, (-3, -FAR))))[:2], (0, 0))


class InterfaceTest(unittest.TestCase):
    def test_all_is_defined_in_this_file(self):
        for call in (beside, parts_of, hangs, is_body, body_of, neighbours_of, free_squares, cut_squares, frame_of,
                     moved, shape_of):
            self.assertEqual(call.__module__, "slideinto.bodies")
