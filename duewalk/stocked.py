"""Stores and requests: what walkers need in store to go on for ever, whatever is requested."""

from duewalk.graphs import round_times, time_of
from duewalk.needs import least_size_of, moves_with, needs_of, unit_rows
from duewalk.requests import position_graph, request_rows
from duewalk.toil import move_toil

MOST_STOCKED = 350


def need_positions(site, starts, asking, size):
    """A dict from the calm positions to their needs, None for none.

    Raises BadStarts(), UnknownPlace(place), then TooLarge(), as all here.
    """
    graph = stocked_graph(site, starts, asking)
    needs = needs_of(toil_rows(asking, graph), size)
    return {position: need for position, need in zip(graph.nodes, needs)}


def stocked_walking(site, starts, asking, size):
    """A dict from the calm positions that have a need to dicts from requests to moves that will do with so many."""
    right = _right_moves(asking, stocked_graph(site, starts, asking), size)
    return {position: {request: moves[0] for request, moves in row.items()} for position, row in right.items()}


def are_stocked_walking(site, starts, asking, size, table):
    """Whether any value is a stocked walking table."""
    right = _right_moves(asking, stocked_graph(site, starts, asking), size)
    if not isinstance(table, dict) or len(table) != len(right):
        return False
    return all([position in table and _are_among(row, table[position]) for position, row in right.items()])


def stocked_requesting(site, starts, asking, size):
    """A dict from the stocked positions that are broken to pairs of a request with the least time, and this time."""
    graph = stocked_graph(site, starts, asking)
    rows = toil_rows(asking, graph)
    ends = unit_rows(rows, size)
    times = round_times(ends)
    table = {}
    for number, time in times.items():
        at, units = divmod(number, size + 1)
        asked = [index for index, row in enumerate(ends[number]) if time_of(row, times) == time]
        table[graph.nodes[at], units] = list(rows[at])[asked[0]], time
    return table


def least_size_asked(site, starts, asking):
    """The least size under requests, None if there is none."""
    return least_size_of(toil_rows(asking, stocked_graph(site, starts, asking)))


def stocked_graph(site, starts, asking):
    """The calm positions where they are few enough; raises BadStarts(), UnknownPlace(place), then TooLarge()."""
    return position_graph(site, starts, asking, MOST_STOCKED)


def toil_rows(asking, graph):
    """For each number a dict from all requests that may be made to the lists of their moves (move, end, toil)."""
    rows = []
    for ((walkers, _), _, _), row in zip(graph.nodes, request_rows(asking, graph)):
        rows.append({request: [(move, end, move_toil(walkers, move)) for move, end in row[request]] for request in row})
    return rows


def _right_moves(asking, graph, size):
    """A dict from the calm positions that have a need to dicts from requests to the moves that will do with so many."""
    rows = toil_rows(asking, graph)
    needs = needs_of(rows, size)
    right = {}
    for number, position in enumerate(graph.nodes):
        need = needs[number]
        if need is not None:
            right[position] = {
                request: moves_with(answers, needs, size, need) for request, answers in rows[number].items()
            }
    return right


def _are_among(row, value):
    """Whether any value is a dict from all requests of a row to one of the moves that it has for each."""
    if not isinstance(value, dict) or len(value) != len(row):
        return False
    return all([request in value and value[request] in moves for request, moves in row.items()])
