"""Shorter plans: plans with the same end and fewer moves."""

from slideinto.bodies import lot_of_body
from slideinto.cells import lot_of, put, shifted
from slideinto.moves import STEPS, kind_in
from slideinto.plans import bodies_behind, checked_moves
from slideinto.walks import walk_in


def without_returns(body, plan):
    """The plan without the moves that lead from a body to this same body again."""
    lot_of_body(body)
    return tuple(direct(body, checked_moves(body, plan)))


def joined(body, plan):
    """The plan with walks in the place of stretches, in which one square goes on, that have more moves."""
    lot_of_body(body)
    return tuple(with_walks(body, checked_moves(body, plan)))


def few_moves(body, other):
    """The least plan of at most two moves from one body to the other; None if there is none."""
    lot = lot_of_body(body)
    goal = lot_of_body(other)
    if len(lot) != len(goal):
        return None
    return few_between(lot, goal, 2)


def tightened(body, plan):
    """The plan with fewer moves in the place of two or three, wherever they lead as far."""
    lot_of_body(body)
    return tuple(tight(body, checked_moves(body, plan)))


def shorter(body, plan):
    """The plan without returns, joined and tightened, as long as it gets shorter."""
    lot_of_body(body)
    moves = checked_moves(body, plan)
    many = len(moves) + 1
    while len(moves) < many:
        many = len(moves)
        moves = tight(body, with_walks(body, direct(body, moves)))
    return tuple(moves)


def direct(body, moves):
    """The list of the moves behind the last place at which each body stands."""
    bodies = bodies_behind(body, moves)
    last = {place: index for index, place in enumerate(bodies)}
    told = []
    index = last[bodies[0]]
    while index < len(moves):
        told.append(moves[index])
        index = last[bodies[index + 1]]
    return told


def with_walks(body, moves):
    """The list of the moves with a walk in the place of each stretch that it shortens."""
    lot = lot_of(body)
    done = []
    ahead = stretches_of(moves)[::-1]
    while ahead:
        stretch = ahead.pop()
        start = stretch[0][0]
        end = stretch[-1][1]
        moves_there = list(walk_in(lot, start, end))
        if moves_there:
            done.append(moves_there if len(moves_there) < len(stretch) else stretch)
            put(lot, start, end)
        elif done and ahead and done[-1][-1][1] == ahead[-1][0][0]:
            # The stretches on both sides are one now. Nothing has changed further ahead.
            before = done.pop()
            put(lot, before[-1][1], before[0][0])
            ahead.append(before + ahead.pop())
    return [move for stretch in done for move in stretch]


def stretches_of(moves):
    """The list of the stretches, each the list of its moves."""
    stretches = []
    for move in moves:
        if stretches and stretches[-1][-1][1] == move[0]:
            stretches[-1].append(move)
        else:
            stretches.append([move])
    return stretches


def tight(body, moves):
    """The list of the moves with no two or three of them that fewer could replace."""
    told = list(moves)
    bodies = list(bodies_behind(body, told))
    index = 0
    while index < len(told) - 1:
        many, fewer = fewer_at(bodies, index)
        if fewer is None:
            index += 1
        else:
            bodies[index:index + many + 1] = bodies_behind(bodies[index], fewer)
            told[index:index + many] = fewer
            # Moves that end further ahead were looked at, and their bodies are as they were.
            index = max(0, index - 2)
    return told


def fewer_at(bodies, index):
    """The pair of how many moves from an index on can be replaced, two or three, and those that replace them."""
    lot = lot_of(bodies[index])
    for many in (2, 3):
        if index + many < len(bodies):
            fewer = few_between(lot, lot_of(bodies[index + many]), many - 1)
            if fewer is not None:
                return (many, fewer)
    return (0, None)


def few_between(lot, goal, most):
    """The least plan of at most so many moves, one or two, between bodies with as many squares; None for none."""
    gone = [square for square in lot if square not in goal]
    come = [square for square in goal if square not in lot]
    if not gone:
        return ()
    if len(gone) == 1 and are_moves_in(lot, [(gone[0], come[0])]):
        return ((gone[0], come[0]),)
    if len(gone) > 2 or most < 2:
        return None
    for plan in sorted(pairs_by_place(gone, come)):
        if are_moves_in(lot, plan):
            return plan
    return None


def pairs_by_place(gone, come):
    """The list of the pairs of moves that can lead to other squares, as far as the squares that differ tell it."""
    if len(gone) == 2:
        return [((gone[k], come[m]), (gone[1 - k], come[1 - m])) for k in (0, 1) for m in (0, 1)]
    start = gone[0]
    end = come[0]
    pairs = []
    for step in STEPS:
        over = shifted(start, step)
        pairs.append(((start, over), (over, end)))
        left = shifted(end, step)
        pairs.append(((left, end), (start, left)))
    return pairs


def are_moves_in(lot, moves):
    """Whether moves are a plan of the body with the squares of this lot."""
    place = {square: True for square in lot}
    for start, end in moves:
        if kind_in(place, start, end) is None:
            return False
        put(place, start, end)
    return True
