"""Stores: what walkers need in store to go on for ever, and for how long too little will do."""

from duewalk.graphs import round_times
from duewalk.keeping import calm_graph
from duewalk.needs import least_size_of, moves_with, needs_of, unit_rows
from duewalk.toil import move_toil

MOST_STORED = 150


def need_table(site, starts, size):
    """A dict from the calm standings to their needs, None for none.

    Raises BadStarts(), then TooLarge(), as all here.
    """
    graph = calm_graph(site, starts, MOST_STORED)
    return {standing: need for standing, need in zip(graph.nodes, needs_of(_rows_of(graph), size))}


def stock_table(site, starts, size):
    """A dict from the calm standings that have a need to moves that will do with so many units."""
    graph = calm_graph(site, starts, MOST_STORED)
    return {standing: moves[0] for standing, moves in _right_moves(graph, size).items()}


def are_stocked(site, starts, size, table):
    """Whether any value is a stock table."""
    right = _right_moves(calm_graph(site, starts, MOST_STORED), size)
    if not isinstance(table, dict) or len(table) != len(right):
        return False
    return all([standing in table and table[standing] in moves for standing, moves in right.items()])


def short_times(site, starts, size):
    """A dict from the stocked standings that are short to their times."""
    graph = calm_graph(site, starts, MOST_STORED)
    stocked = [(standing, units) for standing in graph.nodes for units in range(size + 1)]
    times = round_times(unit_rows(_rows_of(graph), size))
    return {stocked[number]: time for number, time in times.items()}


def least_size(site, starts):
    """The least size, None if there is none."""
    return least_size_of(_rows_of(calm_graph(site, starts, MOST_STORED)))


def _rows_of(graph):
    """The game in which nothing but None is asked."""
    rows = []
    for (walkers, _), arrows in zip(graph.nodes, graph.arrows):
        rows.append({None: [(move, end, move_toil(walkers, move)) for move, end in arrows]})
    return rows


def _right_moves(graph, size):
    """A dict from the calm standings that have a need to the lists of the moves that will do with so many units."""
    rows = _rows_of(graph)
    needs = needs_of(rows, size)
    right = {}
    for number, standing in enumerate(graph.nodes):
        if needs[number] is not None:
            right[standing] = moves_with(rows[number][None], needs, size, needs[number])
    return right
