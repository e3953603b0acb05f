"""Late places: the least share of them, loops that have it, and weights that show it."""

from duewalk.graphs import explored, way_to
from duewalk.keeping import MOST_MOVES, MOST_STANDINGS, number_in
from duewalk.shares import fit_weights, least_loop
from duewalk.walks import behind, is_whole, moves_of, start_of


def least_share(site, starts):
    """The least share of late places; raises BadStarts(), then TooLarge()."""
    share, _, _ = least_loop(_late_rows(site, _late_graph(site, starts)))
    return share


def share_loop(site, starts):
    """A run from the beginning and a loop behind it with the least share; raises BadStarts(), then TooLarge()."""
    graph = _late_graph(site, starts)
    _, loop, _ = least_loop(_late_rows(site, graph))
    entry, _ = loop[0]
    return way_to(graph.arrows, entry), [graph.arrows[number][index][0] for number, index in loop]


def share_weights(site, starts):
    """Weights for the least share; raises BadStarts(), then TooLarge()."""
    graph = _late_graph(site, starts)
    _, _, weights = least_loop(_late_rows(site, graph))
    return {standing: weight for standing, weight in zip(graph.nodes, weights)}


def are_weights(site, starts, share, weights):
    """Whether any value are weights for a share; raises BadStarts(), then TooLarge()."""
    graph = _late_graph(site, starts)
    if not isinstance(weights, dict) or len(weights) != len(graph.nodes):
        return False
    told = [0 for _ in graph.nodes]
    for standing, weight in weights.items():
        number = number_in(site, graph, standing)
        if number is None or not is_whole(weight):
            return False
        told[number] = weight
    return fit_weights(_late_rows(site, graph), share, told)


def _late_graph(site, starts):
    """All standings that can be reached, by bad moves, too; raises BadStarts(), then TooLarge()."""
    beginning = start_of(site, starts)
    return explored(beginning, lambda standing: _late_steps(site, standing), MOST_STANDINGS, MOST_MOVES)


def _late_steps(site, standing):
    """All moves with the standings behind them."""
    walkers, _ = standing
    return [(move, _counted(site, behind(site, standing, move))) for move in moves_of(site, walkers)]


def _counted(site, standing):
    """A standing with its waits counted up to the limits plus 1."""
    walkers, waits = standing
    return walkers, tuple([min(wait, limit + 1) for wait, limit in zip(waits, site.limits)])


def _late_rows(site, graph):
    """For each number, the arrows with the late places at their ends as their costs."""
    late = [_late_places(site, standing) for standing in graph.nodes]
    return [[(end, late[end]) for _, end in row] for row in graph.arrows]


def _late_places(site, standing):
    """The number of late places in a standing."""
    _, waits = standing
    return len([True for wait, limit in zip(waits, site.limits) if wait > limit])
