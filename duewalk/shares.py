"""Shares: the loop with the least cost for each of its arrows, and the weights that show that none has less.

A graph is told by rows here: for each number a list of arrows (end, cost). A loop is
a list of pairs (number, index of the arrow in its row); a share is a fraction.
"""

from math import gcd


def least_loop(rows):
    """(share, loop, weights): the least share of all loops, a loop that has it, and weights for it.

    There must be a loop.
    """
    # Each loop has less than this one, so that the first look finds some.
    share = max([cost for row in rows for _, cost in row]) + 1, 1
    loop = None
    weights, better = _weighed(rows, share)
    while better:
        loop = _least_of(rows, better)
        share = _share_of(rows, loop)
        weights, better = _weighed(rows, share)
    return share, loop, weights


def fit_weights(rows, share, weights):
    """Whether a list of integers, one for each number, are weights for a share."""
    return all([
        _cost_above(cost, share) + weights[number] - weights[end] >= 0
        for number, row in enumerate(rows) for end, cost in row
    ])


def _weighed(rows, share):
    """(weights, []) for a share if no loop has less; otherwise (None, loops that have less)."""
    least = [0 for _ in rows]
    choice = [None for _ in rows]
    changed = True
    while changed:
        changed = False
        for number in reversed(range(len(rows))):
            for index, (end, cost) in enumerate(rows[number]):
                worth = _cost_above(cost, share) + least[end]
                if worth < least[number]:
                    least[number] = worth
                    choice[number] = index
                    changed = True
        # Each arrow was chosen as it lowered what stands at its start: round a loop of such the sum is below 0.
        better = _loops_of(rows, choice)
        if better:
            return None, better
    return [-worth for worth in least], []


def _cost_above(cost, share):
    """What a cost is above a share, times the bottom of the share."""
    top, bottom = share
    return bottom * cost - top


def _loops_of(rows, choice):
    """The loops that chosen arrows make: of each number the index of one, or None."""
    walks = {}
    loops = []
    for start in range(len(rows)):
        at = start
        while at not in walks and choice[at] is not None:
            walks[at] = start
            at, _ = rows[at][choice[at]]
        if walks.get(at) == start:
            loops.append(_loop_from(rows, choice, at))
    return loops


def _loop_from(rows, choice, start):
    """The loop that chosen arrows make from a number on it."""
    loop = []
    at = start
    while not loop or at != start:
        loop.append((at, choice[at]))
        at, _ = rows[at][choice[at]]
    return loop


def _least_of(rows, loops):
    """The loop with the least share among some, at least one."""
    best = loops[0]
    for loop in loops[1:]:
        top, bottom = _share_of(rows, loop)
        best_top, best_bottom = _share_of(rows, best)
        if top * best_bottom < best_top * bottom:
            best = loop
    return best


def _share_of(rows, loop):
    """The share of a loop, in lowest terms."""
    costs = [rows[number][index][1] for number, index in loop]
    common = gcd(sum(costs), len(costs))
    return sum(costs) // common, len(costs) // common
