"""Points [14] to [18]: regions, borders, gaps, and what hangs on the outside."""

from tests.helper import NO_BODIES, NO_CELLS, NO_NUMBERS, Case, add, block, carved, cells_beside, frame_around, grown
from tests.helper import image, large_bodies, many_bodies, plain_regions, ring, rolled, rolled_twice, row, spiral

from slideinto.bodies import free_squares, is_body, moved
from slideinto.borders import border, gaps, hung, region_at, regions
from slideinto.errors import BadBody, BadCell, BadNumber

FAR = 10 ** 30
LARGE = 10 ** 5000

# The step ahead by the step to the square at the right hand, as the document lists them.
AHEAD = {(0, -1): (1, 0), (1, 0): (0, 1), (0, 1): (-1, 0), (-1, 0): (0, -1)}

TWO_HOLES = tuple(sorted(set(ring(3, 3)) | set(moved(ring(4, 3), (2, 0)))))

# A ring that has a ring within, which hangs on it by one square.
RING_IN_RING = tuple(sorted(set(ring(7, 7)) | set(moved(ring(3, 3), (2, 2))) | {(1, 3)}))

# Cells in a row from corner to corner, each a region: the least one opens to the outside at a corner, too.
STAIRS = tuple(sorted(set(block(5, 5)) - {(0, 0), (1, 1), (2, 2), (3, 3)}))
SHUT_STAIRS = tuple(sorted(set(block(6, 6)) - {(1, 1), (2, 2), (3, 3), (4, 4)}))


def holed_bodies():
    """Bodies with many regions and gaps."""
    carvings = [carved(7, 6, 29 + seed % 6, seed) for seed in range(1, 25)]
    told = [TWO_HOLES, RING_IN_RING, STAIRS, SHUT_STAIRS, rolled(), rolled_twice(), ring(3, 3), spiral(50)]
    return told + carvings


def all_bodies():
    return holed_bodies() + many_bodies()


def plain_hung(body):
    """The gaps as hung tells them, from rows of gaps that were counted one region after the other."""
    counts = {0: 0}
    links = [(gap, region_at(body, gap[2]), region_at(body, gap[3])) for gap in gaps(body)]
    for _ in links:
        for _, one, two in links:
            for here, there in ((one, two), (two, one)):
                if here in counts:
                    counts[there] = min(counts.get(there, counts[here] + 1), counts[here] + 1)
    told = []
    for number in sorted(counts):
        towards = [
            gap for gap, one, two in links
            for here, there in ((one, two), (two, one))
            if here == number and counts.get(there) == counts[number] - 1
        ]
        told.append((number, towards))
    return told


class RegionsTest(Case):
    def test_none_but_the_outside(self):
        for body in (((3, 4),), row(5), block(3, 3), spiral(30)):
            self.assertEqual(regions(body), ())

    def test_told_bodies(self):
        self.assertEqual(regions(ring(3, 3)), (((1, 1),),))
        self.assertEqual(regions(body=ring(4, 4)), (((1, 1), (1, 2), (2, 1), (2, 2)),))
        self.assertEqual(regions(TWO_HOLES), (((1, 1),), ((3, 1), (4, 1))))
        self.assertEqual(regions(STAIRS), (((1, 1),), ((2, 2),), ((3, 3),)))
        self.assertEqual(regions(rolled())[0][0], (-1, 2))

    def test_one_within_another(self):
        outer, inner = regions(RING_IN_RING)
        self.assertEqual(inner, ((3, 3),))
        self.assertEqual(len(outer), 25 - 9 - 1)
        self.assertEqual((outer[0], outer[-1]), ((1, 1), (5, 5)))

    def test_numbers_in_the_order_of_the_least_cells(self):
        # The region with the greater cells lies round the other one in part, its least cell further east.
        body = tuple(sorted(set(block(7, 5)) - {(1, 3), (2, 1), (3, 1), (4, 1), (4, 2), (4, 3)}))
        self.assertEqual(regions(body), (((1, 3),), ((2, 1), (3, 1), (4, 1), (4, 2), (4, 3))))
        turned = tuple(sorted((-column, up) for column, up in body))
        self.assertEqual([cells[0] for cells in regions(turned)], [(-4, 1), (-1, 3)])

    def test_against_the_plain_regions(self):
        for body in all_bodies() + [carved(20, 20, 200, 3), ring(40, 40)]:
            self.assertEqual(regions(body), tuple(plain_regions(body)[1:]))

    def test_far_away(self):
        self.assertEqual(regions(moved(ring(3, 3), (FAR, -LARGE))), (((FAR + 1, 1 - LARGE),),))

    def test_no_body(self):
        for value in NO_BODIES:
            for call in (regions, gaps, hung):
                self.assert_error((BadBody, value), call, value)


class RegionAtTest(Case):
    def test_squares_and_empty_cells(self):
        self.assertIsNone(region_at(TWO_HOLES, (0, 0)))
        self.assertIsNone(region_at(TWO_HOLES, (2, 1)))
        self.assertEqual(region_at(TWO_HOLES, (1, 1)), 1)
        self.assertEqual(region_at(cell=(4, 1), body=TWO_HOLES), 2)
        self.assertEqual(region_at(TWO_HOLES, (-1, 1)), 0)
        self.assertEqual(region_at(TWO_HOLES, (6, 1)), 0)
        self.assertEqual(region_at(((0, 0),), (0, 1)), 0)

    def test_far_away(self):
        for cell in ((FAR, 1), (-FAR, 1), (1, FAR), (1, -FAR), (LARGE, LARGE), (-LARGE, 1), (LARGE, 1)):
            self.assertEqual(region_at(TWO_HOLES, cell), 0)
        self.assertEqual(region_at(moved(TWO_HOLES, (LARGE, 0)), (LARGE + 1, 1)), 1)
        self.assertEqual(region_at(moved(TWO_HOLES, (LARGE, 0)), (1, 1)), 0)

    def test_each_cell_of_the_frame(self):
        for body in all_bodies():
            numbers = {cell: number for number, cells in enumerate(plain_regions(body)) for cell in cells}
            for cell in frame_around(body, 2):
                self.assertEqual(region_at(body, cell), None if cell in body else numbers.get(cell, 0))

    def test_errors_in_their_order(self):
        for value in NO_CELLS:
            self.assert_error((BadCell, value), region_at, ring(3, 3), value)
            for other in NO_BODIES:
                self.assert_error((BadBody, other), region_at, other, value)
        for value in NO_BODIES:
            self.assert_error((BadBody, value), region_at, value, (0, 0))


class BorderTest(Case):
    def test_one_square(self):
        self.assertEqual(
            border(((0, 0),), 0),
            (((-1, 0), (0, 0)), ((0, 1), (0, 0)), ((1, 0), (0, 0)), ((0, -1), (0, 0))),
        )

    def test_all_three_cases(self):
        hook = ((0, 0), (1, 0), (2, 0), (2, 1))
        self.assertEqual(
            border(region=0, body=hook),
            (
                ((-1, 0), (0, 0)), ((0, 1), (0, 0)), ((1, 1), (1, 0)), ((1, 1), (2, 1)), ((2, 2), (2, 1)),
                ((3, 1), (2, 1)), ((3, 0), (2, 0)), ((2, -1), (2, 0)), ((1, -1), (1, 0)), ((0, -1), (0, 0)),
            ),
        )

    def test_a_region_of_one_cell(self):
        told = (((1, 1), (0, 1)), ((1, 1), (1, 0)), ((1, 1), (2, 1)), ((1, 1), (1, 2)))
        self.assertEqual(border(ring(3, 3), 1), told)

    def test_against_the_three_cases(self):
        for body in all_bodies() + list(large_bodies().values()):
            squares = set(body)
            for number in range(len(regions(body)) + 1):
                told = border(body, number)
                self.assertIs(type(told), tuple)
                self.assertEqual(told[0], min(told))
                self.assertEqual(len(told), len(set(told)))
                for side, after in zip(told, told[1:] + told[:1]):
                    self.assertEqual(after, self.side_behind(squares, *side))

    def side_behind(self, squares, cell, square):
        right = (square[0] - cell[0], square[1] - cell[1])
        ahead = add(cell, AHEAD[right])
        if ahead in squares:
            return (cell, ahead)
        if add(ahead, right) in squares:
            return (ahead, add(ahead, right))
        return (add(ahead, right), square)

    def test_no_number_of_a_region(self):
        for body in (row(3), ring(3, 3), TWO_HOLES):
            many = len(regions(body)) + 1
            for value in NO_NUMBERS + (-1, many, many + 5, FAR, -FAR):
                self.assert_error((BadNumber, "region", value), border, body, value)

    def test_bad_body_first(self):
        for value in NO_BODIES:
            for number in (0, 1, None, -1):
                self.assert_error((BadBody, value), border, value, number)


class GapsTest(Case):
    def test_none(self):
        for body in (((0, 0),), row(4), block(2, 2), ring(3, 3), ((0, 0), (0, 1), (1, 1))):
            self.assertEqual(gaps(body), ())

    def test_both_kinds_of_diagonals(self):
        body = tuple(sorted(set(ring(4, 4)) - {(0, 0)}))
        self.assertEqual(gaps(body), (((0, 1), (1, 0), (0, 0), (1, 1)),))
        body = tuple(sorted(set(ring(4, 4)) - {(0, 3)}))
        self.assertEqual(gaps(body=body), (((0, 2), (1, 3), (0, 3), (1, 2)),))

    def test_several_ascend(self):
        self.assertEqual(
            gaps(STAIRS),
            (
                ((0, 1), (1, 0), (0, 0), (1, 1)), ((1, 2), (2, 1), (1, 1), (2, 2)),
                ((2, 3), (3, 2), (2, 2), (3, 3)),
            ),
        )

    def test_against_all_corners(self):
        for body in all_bodies():
            squares = set(body)
            told = []
            for cell in frame_around(body, 1):
                lot = [add(cell, step) for step in ((0, 0), (0, 1), (1, 0), (1, 1))]
                full = [place for place in lot if place in squares]
                empty = [place for place in lot if place not in squares]
                if len(full) == 2 and full[0][0] != full[1][0] and full[0][1] != full[1][1]:
                    told.append((*full, *empty))
            self.assertEqual(gaps(body), tuple(sorted(told)))


class HungTest(Case):
    def test_none(self):
        for body in (((0, 0),), row(4), ring(3, 3), RING_IN_RING, SHUT_STAIRS):
            self.assertEqual(hung(body), ())

    def test_at_once(self):
        body = tuple(sorted(set(ring(4, 4)) - {(0, 0)}))
        self.assertEqual(hung(body), ((1, ((0, 1), (1, 0), (0, 0), (1, 1))),))
        self.assertEqual(hung(rolled()), ((1, ((0, 1), (1, 0), (0, 0), (1, 1))),))

    def test_one_gap_behind_the_other(self):
        told = gaps(STAIRS)
        self.assertEqual(hung(body=STAIRS), ((1, told[0]), (2, told[1]), (3, told[2])))
        # From the other end of the stairs the numbers run against the gaps.
        turned = tuple(sorted((-column, -up) for column, up in STAIRS))
        told = gaps(turned)
        self.assertEqual(hung(turned), ((1, told[0]), (2, told[1]), (3, told[2])))
        self.assertEqual(region_at(turned, told[0][3]), 2)

    def test_some_hang_and_some_do_not(self):
        body = tuple(sorted(set(block(8, 5)) - {(0, 0), (1, 1), (4, 2), (5, 3)}))
        self.assertEqual(len(gaps(body)), 2)
        self.assertEqual(hung(body), ((1, ((0, 1), (1, 0), (0, 0), (1, 1))),))
        two = hung(rolled_twice())
        self.assertEqual(two, ((1, ((0, 1), (1, 0), (0, 0), (1, 1))), (2, ((0, 4), (1, 5), (0, 5), (1, 4)))))

    def test_against_the_counted_gaps(self):
        most = 0
        for body in all_bodies():
            told = []
            for number, towards in plain_hung(body):
                if number > 0:
                    self.assertEqual(len(towards), 1)
                    told.append((number, towards[0]))
            self.assertEqual(hung(body), tuple(told))
            most = max(most, len(told))
        self.assertGreater(most, 2)


class FactsTest(Case):
    def test_each_side_is_of_just_one_region(self):
        for body in all_bodies() + list(large_bodies().values()):
            told = [side for number in range(len(regions(body)) + 1) for side in border(body, number)]
            sides = [(cell, square) for square in body for cell in cells_beside(square) if cell not in set(body)]
            self.assertEqual(sorted(told), sorted(sides))
            pairs = sum(len(cells_beside(square) & set(body)) for square in body) // 2
            self.assertEqual(len(told), 4 * len(body) - 2 * pairs)
            self.assertGreaterEqual(pairs, len(body) - 1)

    def test_the_sides_of_a_border_are_of_its_region(self):
        for body in holed_bodies():
            for number in range(len(regions(body)) + 1):
                for cell, _ in border(body, number)[::3]:
                    self.assertEqual(region_at(body, cell), number)

    def test_no_gap_has_both_cells_in_one_region_and_gaps_make_no_ring(self):
        for body in all_bodies():
            lots = [{number} for number in range(len(regions(body)) + 1)]
            for _, _, one, two in gaps(body):
                first = [lot for lot in lots if region_at(body, one) in lot][0]
                second = [lot for lot in lots if region_at(body, two) in lot][0]
                self.assertIsNot(first, second)
                lots = [lot for lot in lots if lot is not first and lot is not second] + [first | second]

    def test_a_free_square_with_a_side_of_what_hangs_on_the_outside(self):
        for body in all_bodies():
            if len(body) > 1:
                numbers = [0] + [number for number, _ in hung(body)]
                squares = {square for number in numbers for _, square in border(body, number)}
                self.assertTrue(squares & set(free_squares(body)))

    def test_turned_and_mirrored(self):
        for body in holed_bodies()[:10]:
            for way in range(8):
                other = image(body, way)
                self.assertTrue(is_body(other))
                self.assertEqual(sorted(map(len, regions(other))), sorted(map(len, regions(body))))
                self.assertEqual(len(hung(other)), len(hung(body)))


class LimitsTest(Case):
    def test_large_bodies(self):
        bodies = dict(large_bodies(), carved=carved(60, 4, 200, 1), wide=ring(60, 42), grown=grown(200, 11))
        for body in bodies.values():
            inner = regions(body)
            for number, cells in enumerate(inner):
                self.assertEqual(region_at(body, cells[-1]), number + 1)
                self.assertTrue(border(body, number + 1))
            self.assertLessEqual(len(hung(body)), len(inner))
        self.assertEqual(len(regions(bodies["wide"])[0]), 58 * 40)
