"""Needs: the least units of a store with which one can go on for ever, whatever is asked.

Games are told by rows here: for each number a dict from all that may be asked there to
the lists of its answers (move, end, toil).
"""

MOST_SIZE = 12


def needs_of(rows, size):
    """For each number its need with a store of a size, None if it has none."""
    return [need if need <= size else None for need in _risen(rows, size, [0 for _ in rows])]


def least_size_of(rows):
    """The least size with which the number 0 has a need, None if none will do."""
    least = None
    needs = [0 for _ in rows]
    # With a smaller store no need is less, so that the needs with a greater one are where to begin.
    for size in reversed(range(MOST_SIZE + 1)):
        needs = _risen(rows, size, needs)
        if needs[0] > size:
            return least
        least = size
    return least


def moves_with(answers, needs, size, units):
    """The moves of answers that are not bad with so many units, and leave as many as are needed behind them."""
    moves = []
    for move, end, toil in answers:
        left = units_behind(units, toil, size)
        if needs[end] is not None and left >= needs[end]:
            moves.append(move)
    return moves


def units_behind(units, toil, size):
    """The units behind a step, below 0 if there are too few."""
    return units - toil if toil else min(units + 1, size)


def unit_rows(rows, size):
    """For each number and units from 0 to the size, in this order, the lists of the ends of the steps that are not bad.

    The number of an end with its units is its place in this order.
    """
    return [
        [_unit_ends(answers, units, size) for answers in row.values()]
        for row in rows for units in range(size + 1)
    ]


def _unit_ends(answers, units, size):
    behind = [(end, units_behind(units, toil, size)) for _, end, toil in answers]
    return [end * (size + 1) + left for end, left in behind if left >= 0]


def _risen(rows, size, needs):
    """The needs with a store of a size, above it for none, found from such as are not above them."""
    needs = list(needs)
    before = _starts_before(rows)
    waiting = list(reversed(range(len(rows))))
    while waiting:
        later = {}
        for number in waiting:
            need = max([_need_with(answers, needs, size) for answers in rows[number].values()])
            if need > needs[number]:
                needs[number] = need
                later.update({start: True for start in before[number]})
        waiting = list(later)
    return needs


def _need_with(answers, needs, size):
    """The least units with which one of some answers will do, as the needs are told; above the size for none."""
    enough = [needs[end] + toil if toil else max(0, needs[end] - 1) for _, end, toil in answers if needs[end] <= size]
    return min([need for need in enough if need <= size], default=size + 1)


def _starts_before(rows):
    """For each number a dict from the starts of the answers that lead to it."""
    before = [{} for _ in rows]
    for start, row in enumerate(rows):
        for answers in row.values():
            for _, end, _ in answers:
                before[end][start] = True
    return before
