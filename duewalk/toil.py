"""Toil: what moves cost, the least share of it in rounds, and the weights that show that none has less."""

from duewalk.graphs import way_to
from duewalk.keeping import is_plan_of, kept_graph, number_behind
from duewalk.shares import fit_weights, least_loop
from duewalk.walks import followed, is_whole, start_of, stepped


def toil_of(site, standing, move):
    """The toil of a move; raises BadStanding(), then BadMove(0)."""
    stepped(site, standing, move)
    walkers, _ = standing
    return move_toil(walkers, move)


def run_toil(site, starts, run):
    """The toil of a list of moves from the beginning; raises BadStarts(), then BadMove(index)."""
    standings = [start_of(site, starts)] + followed(site, starts, run)
    return sum([move_toil(walkers, move) for (walkers, _), move in zip(standings, run)])


def least_toil(site, starts):
    """The least toil; raises BadStarts(), TooLarge(), then NotKept(), as all that follow do."""
    share, _, _ = least_loop(_toil_rows(kept_graph(site, starts)))
    return share


def restful_plan(site, starts):
    """A restful plan."""
    graph = kept_graph(site, starts)
    _, loop, _ = least_loop(_toil_rows(graph))
    entry, _ = loop[0]
    return way_to(graph.arrows, entry), [graph.arrows[number][index][0] for number, index in loop]


def is_restful(site, starts, plan):
    """Whether any value is a restful plan."""
    graph = kept_graph(site, starts)
    if not is_plan_of(graph, plan):
        return False
    run, loop = plan
    toil = 0
    at = number_behind(graph, 0, run)
    for move in loop:
        walkers, _ = graph.nodes[at]
        toil += move_toil(walkers, move)
        at = graph.target(at, move)
    (top, bottom), _, _ = least_loop(_toil_rows(graph))
    return toil * bottom == top * len(loop)


def toil_weights(site, starts):
    """Toil weights for the least toil."""
    graph = kept_graph(site, starts)
    _, _, weights = least_loop(_toil_rows(graph))
    return {standing: weight for standing, weight in zip(graph.nodes, weights)}


def are_toil_weights(site, starts, share, weights):
    """Whether any value are toil weights for a share."""
    graph = kept_graph(site, starts)
    return are_weights_of(graph, _toil_rows(graph), share, weights)


def are_weights_of(graph, rows, share, value):
    """Whether any value is a dict from just the nodes of a graph to weights for a share."""
    if not isinstance(value, dict) or len(value) != len(graph.nodes):
        return False
    if not all([node in value and is_whole(value[node]) for node in graph.nodes]):
        return False
    return fit_weights(rows, share, [value[node] for node in graph.nodes])


def move_toil(walkers, move):
    """The toil of a move of walkers; neither of them is checked."""
    return len([True for (place, _), end in zip(walkers, move) if end != place])


def _toil_rows(graph):
    """For each number, the arrows with the toil of their moves as their costs."""
    rows = []
    for (walkers, _), arrows in zip(graph.nodes, graph.arrows):
        rows.append([(end, move_toil(walkers, move)) for move, end in arrows])
    return rows
