"""Points [8], [9] and [10]: moves."""

import unittest

from tests.helper import NO_CELLS, all_shapes, block, images, large_bodies, many_bodies, plain_kind, ring, row

from slideinto.bodies import frame_of, free_squares, is_body, moved
from slideinto.errors import BadCell, NoMove, NotThere
from slideinto.moves import done, kind_of, moves_of

FAR = 10 ** 30
LARGE = 10 ** 5000

# What stays, what goes from (0, 0), and where to: each is turned and mirrored in the tests.
SLIDES = (
    (((0, -1), (1, -1)), (1, 0)),
    (((0, 1), (1, 1)), (1, 0)),
    (((0, -1), (1, -1), (2, -1), (2, 0), (2, 1), (1, 1), (0, 1)), (1, 0)),
)
TURNS = (
    (((1, 0),), (1, 1)),
    (((1, 0), (2, 0), (2, 1)), (1, 1)),
    (((1, 0), (1, -1)), (1, 1)),
)
NO_MOVES = (
    (((-1, 0),), (1, 0)),
    (((0, 1),), (1, 0)),
    (((0, 1), (-1, 1)), (1, 0)),
    (((-1, 0), (-1, 1), (0, 1)), (0, 2)),
    (((0, 1), (1, 1)), (2, 0)),
    (((0, 1), (1, 1), (2, 1)), (2, 0)),
    (((0, 1), (-1, 1), (-1, 2), (0, 2)), (1, 2)),
    (((1, 0), (0, 1), (2, 0), (2, 1), (2, 2), (1, 2), (0, 2)), (1, 1)),
    (((-1, 0), (-1, 1)), (1, 1)),
    (((1, 0),), (-1, -1)),
)


def square_around(cell, far):
    """The cells around a cell, and itself, ascending."""
    steps = range(-far, far + 1)
    return [(cell[0] + across, cell[1] + up) for across in steps for up in steps]


def in_all_ways(rest, end):
    """Bodies of the rest and (0, 0), with the cell end, turned and mirrored."""
    for way in range(8):
        body = tuple(sorted([(0, 0)] + [images(cell)[way] for cell in rest]))
        yield body, images(end)[way]


class MovesTest(unittest.TestCase):
    def assert_no_move(self, body, start, end):
        self.assertIsNone(kind_of(body, start, end))
        self.assertNotIn((start, end), moves_of(body))
        with self.assertRaises(NoMove) as caught:
            done(body, start, end)
        self.assertEqual((caught.exception.start, caught.exception.end), (start, end))

    def assert_move(self, body, start, end, kind):
        self.assertEqual(kind_of(body, start, end), kind)
        self.assertIn((start, end), moves_of(body))
        self.assertEqual(done(body, start, end), tuple(sorted(set(body) - {start} | {end})))


class KindsTest(MovesTest):
    def test_slides(self):
        for rest, end in SLIDES:
            for body, cell in in_all_ways(rest, end):
                self.assert_move(body, (0, 0), cell, "slide")

    def test_turns(self):
        for rest, end in TURNS:
            for body, cell in in_all_ways(rest, end):
                self.assert_move(body, (0, 0), cell, "turn")

    def test_no_moves(self):
        for rest, end in NO_MOVES:
            for body, cell in in_all_ways(rest, end):
                self.assertTrue(is_body(body))
                self.assert_no_move(body, (0, 0), cell)

    def test_start_that_is_not_free(self):
        self.assert_no_move(row(5), (1, 0), (2, 1))
        cross = ((-1, 0), (0, -1), (0, 0), (0, 1), (1, 0))
        self.assert_no_move(cross, (0, 0), (1, 1))
        # The cells around would do for a turn and for a slide, but what stays would fall apart.
        self.assert_no_move(((0, 0), (1, 0), (1, 1), (2, 0)), (1, 0), (0, 1))
        self.assert_no_move(((-1, 0), (0, 0), (0, 1), (1, 1)), (0, 0), (1, 0))

    def test_start_and_end_the_same(self):
        for body in (((0, 0),), row(3), block(3, 3)):
            self.assert_no_move(body, (0, 0), (0, 0))

    def test_end_that_is_a_square(self):
        self.assert_no_move(block(2, 2), (0, 0), (0, 1))
        self.assert_no_move(block(2, 2), (0, 0), (1, 1))
        self.assert_no_move(((0, 0), (1, 0), (1, 1)), (0, 0), (1, 1))

    def test_end_far_away(self):
        self.assert_no_move(row(3), (0, 0), (FAR, FAR))
        self.assert_no_move(row(3), (0, 0), (3, 0))
        self.assert_no_move(row(3), (0, 0), (2, 1))

    def test_a_cell_of_many_digits(self):
        self.assertIsNone(kind_of(row(3), (0, 0), (LARGE, 0)))
        with self.assertRaises(NoMove) as caught:
            done(row(3), (0, 0), (LARGE, 0))
        self.assertEqual(caught.exception.end, (LARGE, 0))
        with self.assertRaises(NotThere):
            done(row(3), (LARGE, 0), (0, 0))

    def test_start_that_is_empty(self):
        body = row(3)
        self.assertIsNone(kind_of(body, (0, 1), (1, 1)))
        self.assertIsNone(kind_of(body, (-1, 0), (0, 1)))
        self.assertIsNone(kind_of(body, (0, 1), (0, 1)))
        self.assertIsNone(kind_of(body, (0, 1), (0, 0)))

    def test_no_cell(self):
        for value in NO_CELLS:
            for call in (kind_of, done):
                for start, end in ((value, (0, 1)), ((0, 0), value), ((9, 9), value), (value, None)):
                    with self.assertRaises(BadCell) as caught:
                        call(row(3), start, end)
                    self.assertIs(caught.exception.cell, value)

    def test_by_name(self):
        body = ((0, 0), (1, 0))
        self.assertEqual(kind_of(end=(1, 1), start=(0, 0), body=body), "turn")
        self.assertEqual(done(end=(1, 1), start=(0, 0), body=body), ((1, 0), (1, 1)))
        self.assertEqual(moves_of(body=((0, 0),)), ())


class DoneTest(MovesTest):
    def test_bodies_behind(self):
        body = ((0, 0), (0, 1), (1, 0), (1, 1), (2, 0))
        self.assertEqual(done(body, (2, 0), (2, 1)), ((0, 0), (0, 1), (1, 0), (1, 1), (2, 1)))
        self.assertEqual(done(body, (0, 0), (-1, 1)), ((-1, 1), (0, 1), (1, 0), (1, 1), (2, 0)))
        self.assertEqual(body, ((0, 0), (0, 1), (1, 0), (1, 1), (2, 0)))

    def test_order_of_the_errors(self):
        body = row(3)
        with self.assertRaises(BadCell) as caught:
            done(body, "no cell", None)
        self.assertEqual(caught.exception.cell, "no cell")
        with self.assertRaises(BadCell) as caught:
            done(body, (7, 7), None)
        self.assertIsNone(caught.exception.cell)
        for end in ((7, 7), (0, 0), (8, 8)):
            with self.assertRaises(NotThere) as caught:
                done(body, (7, 7), end)
            self.assertEqual(caught.exception.cell, (7, 7))
        with self.assertRaises(NoMove) as caught:
            done(body, (1, 0), (1, 1))
        self.assertEqual((caught.exception.start, caught.exception.end), ((1, 0), (1, 1)))

    def test_a_body_of_one_has_no_moves(self):
        body = ((5, -5),)
        self.assertEqual(moves_of(body), ())
        for column in range(3, 8):
            for up in range(-7, -2):
                self.assert_no_move(body, (5, -5), (column, up))


class MovesOfTest(MovesTest):
    def test_two_squares(self):
        self.assertEqual(
            moves_of(((0, 0), (1, 0))),
            (((0, 0), (1, -1)), ((0, 0), (1, 1)), ((1, 0), (0, -1)), ((1, 0), (0, 1))),
        )

    def test_blocks(self):
        self.assertEqual(moves_of(block(2, 2))[:2], (((0, 0), (-1, 1)), ((0, 0), (1, -1))))
        self.assertEqual(len(moves_of(block(2, 2))), 8)
        self.assertEqual(len(moves_of(block(3, 3))), 16)

    def test_just_the_pairs_with_a_kind(self):
        for body in many_bodies():
            pairs = [(start, end) for start in body for end in square_around(start, 2)]
            kinds = {pair: plain_kind(body, *pair) for pair in pairs}
            self.assertEqual(moves_of(body), tuple(pair for pair in pairs if kinds[pair]))
            for pair in pairs if len(body) < 20 else pairs[::17]:
                self.assertEqual(kind_of(body, *pair), kinds[pair])

    def test_pairs_of_all_cells_of_a_frame(self):
        for body in all_shapes(4):
            west, south, east, north = frame_of(body)
            cells = [(column, up) for column in range(west - 2, east + 3) for up in range(south - 2, north + 3)]
            pairs = tuple((start, end) for start in cells for end in cells if kind_of(body, start, end) is not None)
            self.assertEqual(moves_of(body), pairs)


class FactsTest(MovesTest):
    def bodies(self):
        for body in many_bodies():
            yield body
            yield moved(body, (-FAR, 12))

    def test_behind_a_move_is_a_body_of_as_many_squares(self):
        for body in self.bodies():
            for start, end in moves_of(body):
                behind = done(body, start, end)
                self.assertTrue(is_body(behind))
                self.assertEqual(len(behind), len(body))

    def test_each_move_leads_back_by_one_of_its_kind(self):
        for body in self.bodies():
            for start, end in moves_of(body):
                behind = done(body, start, end)
                self.assertEqual(kind_of(behind, end, start), kind_of(body, start, end))
                self.assertEqual(done(behind, end, start), body)

    def test_two_free_squares_and_a_move(self):
        for body in list(self.bodies()) + list(large_bodies().values()) + all_shapes(7):
            if len(body) > 1:
                self.assertGreaterEqual(len(free_squares(body)), 2)
                self.assertGreaterEqual(len(moves_of(body)), 1)

    def test_moves_of_a_moved_body_are_the_moved_moves(self):
        for body in self.bodies():
            for by in ((-5, 3), (10 ** 40, -10 ** 40)):
                behind = moved(body, by)
                shifted = tuple(moved((start,), by) + moved((end,), by) for start, end in moves_of(body))
                self.assertEqual(moves_of(behind), shifted)
                for pair, told in list(zip(moves_of(body), shifted))[:6]:
                    self.assertEqual(kind_of(behind, *told), kind_of(body, *pair))

    def test_facts_hold_behind_many_moves(self):
        body = ring(5, 4)
        for k in range(120):
            moves = moves_of(body)
            start, end = moves[k * k % len(moves)]
            behind = done(body, start, end)
            self.assertTrue(is_body(behind))
            self.assertEqual(done(behind, end, start), body)
            body = behind


class LargeTest(MovesTest):
    def test_row(self):
        body = large_bodies()["row"]
        self.assertEqual(
            moves_of(body),
            (((0, 0), (1, -1)), ((0, 0), (1, 1)), ((199, 0), (198, -1)), ((199, 0), (198, 1))),
        )
        self.assertEqual(done(body, (199, 0), (198, 1))[-3:], ((197, 0), (198, 0), (198, 1)))

    def test_ring_and_block(self):
        bodies = large_bodies()
        for name in ("ring", "block"):
            body = bodies[name]
            pairs = [(start, end) for start in body for end in square_around(start, 1)]
            self.assertEqual(moves_of(body), tuple(pair for pair in pairs if plain_kind(body, *pair)))

    def test_each_answers(self):
        for body in large_bodies().values():
            moves = moves_of(body)
            self.assertEqual(moves, tuple(sorted(moves)))
            for start, end in moves[::9]:
                behind = done(body, start, end)
                self.assertEqual(len(behind), 200)
                self.assertEqual(done(behind, end, start), body)


class InterfaceTest(unittest.TestCase):
    def test_all_is_defined_in_this_file(self):
        for call in (kind_of, moves_of, done):
            self.assertEqual(call.__module__, "slideinto.moves")
