"""From below: pairings of squares and papers, which show how many moves every plan has at least."""

from slideinto.bodies import lot_of_body
from slideinto.cells import checked_cell, is_cell, is_whole
from slideinto.errors import BadBody, BadNumber
from slideinto.plans import end_of


class Paper:
    """Numbers for the squares of two bodies that show that no pairing of them costs less than their sum."""

    def __init__(self, ups, downs):
        self.ups = ups
        self.downs = downs


class Matcher:
    """Pairs rows of a table of costs with its columns, one row after the other, as cheaply as can be.

    A row and a column have numbers, up and down, with a sum that is never above their cost, and just the cost
    for those that are paired: so no pairing of them is cheaper.
    """

    def __init__(self, costs):
        self.costs = costs
        self.ups = [0] * len(costs)
        self.downs = [0] * len(costs)
        # The row that each column is paired with, None for none.
        self.rows = [None] * len(costs)

    def take(self, row):
        """Pairs one more row, and others anew where this is cheaper."""
        rest = {other: (self.left(row, other), None) for other in range(len(self.costs))}
        met = []
        column = nearest(rest)
        least, before = rest.pop(column)
        met.append((column, before, least))
        while self.rows[column] is not None:
            rest = self.ways_by(column, least, rest)
            column = nearest(rest)
            least, before = rest.pop(column)
            met.append((column, before, least))
        self.raise_numbers(row, met, least)
        self.pair_back(row, column, {place: earlier for place, earlier, way in met})

    def left(self, row, column):
        """What the cost of a row and a column has above their numbers."""
        return self.costs[row][column] - self.ups[row] - self.downs[column]

    def ways_by(self, column, least, rest):
        """The ways to the columns that are left, by way of a column's row where this is cheaper."""
        row = self.rows[column]
        ways = {}
        for other in rest:
            way = least + self.left(row, other)
            ways[other] = (way, column) if way < rest[other][0] else rest[other]
        return ways

    def raise_numbers(self, row, met, least):
        """Changes the numbers of what was met so that the whole way to the last column costs nothing more."""
        self.ups[row] += least
        for column, _, way in met[:-1]:
            self.ups[self.rows[column]] += least - way
            self.downs[column] -= least - way

    def pair_back(self, row, column, before):
        """Pairs the columns on a way anew, from the last one back to the first one, which the row takes."""
        place = column
        while before[place] is not None:
            self.rows[place] = self.rows[before[place]]
            place = before[place]
        self.rows[place] = row


def nearest(rest):
    """The column to which the cheapest way leads."""
    return min([(rest[column][0], column) for column in rest])[1]


def cost(one, two):
    """The cost of two cells: the greater one of the differences of their columns and rows."""
    return cost_between(checked_cell(one), checked_cell(two))


def cost_of(pairs):
    """The sum of the costs of a list of pairs of cells."""
    if not isinstance(pairs, (list, tuple)) or not all(is_pair(pair) for pair in pairs):
        raise BadNumber("pairs", pairs)
    return sum([cost_between(one, two) for one, two in pairs])


def below(body, other):
    """The least cost of a pairing of two bodies."""
    return sum_of(paper_of(body, other))


def cheapest(body, other):
    """A pairing of two bodies with the least cost."""
    matcher = matched(body, other)
    ones = list(lot_of_body(body))
    pairs = [(ones[row], two) for row, two in zip(matcher.rows, lot_of_body(other))]
    return tuple(sorted(pairs))


def is_paper(body, other, paper):
    """Whether a paper shows that no pairing of two bodies costs less than its sum."""
    ones, twos = both_lots(body, other)
    if not are_numbers(paper.ups, len(ones)) or not are_numbers(paper.downs, len(twos)):
        return False
    pairs = [(one, two, up + down) for one, up in zip(ones, paper.ups) for two, down in zip(twos, paper.downs)]
    return all(both <= cost_between(one, two) for one, two, both in pairs)


def sum_of(paper):
    """The sum of all numbers of a paper."""
    return sum(paper.ups) + sum(paper.downs)


def paper_of(body, other):
    """A paper of two bodies whose sum is the least cost of a pairing."""
    matcher = matched(body, other)
    return Paper(tuple(matcher.ups), tuple(matcher.downs))


def waste(body, plan):
    """How many moves a plan has above the least cost of a pairing of its first and its last body."""
    lot_of_body(body)
    return len(plan) - below(body, end_of(body, plan))


def cost_between(one, two):
    """The cost of two values that are cells."""
    return max(abs(one[0] - two[0]), abs(one[1] - two[1]))


def is_pair(value):
    """Whether a value is a tuple of two cells."""
    return isinstance(value, tuple) and len(value) == 2 and is_cell(value[0]) and is_cell(value[1])


def both_lots(body, other):
    """The lots of two bodies with as many squares; BadBody for the first value that is none."""
    ones = lot_of_body(body)
    twos = lot_of_body(other)
    if len(ones) != len(twos):
        raise BadBody(other)
    return (ones, twos)


def matched(body, other):
    """A Matcher in which all squares of two bodies are paired."""
    ones, twos = both_lots(body, other)
    matcher = Matcher([[cost_between(one, two) for two in twos] for one in ones])
    for row in range(len(ones)):
        matcher.take(row)
    return matcher


def are_numbers(value, many):
    """Whether a value is a tuple of so many integers."""
    return isinstance(value, tuple) and len(value) == many and all(is_whole(number) for number in value)
