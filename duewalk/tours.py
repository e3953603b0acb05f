"""Tours: their waits and limits, distances between calm standings, and the shortest tour."""

from duewalk.errors import BadMove, NotBack, NotCalm
from duewalk.graphs import distances_to, shortest_way
from duewalk.keeping import calm_graph, number_in
from duewalk.walks import behind, followed, start_of


def greatest_waits(site, starts, tour):
    """A dict from all names to the greatest waits of a tour; raises BadStarts(), BadMove(index), then NotBack()."""
    standing = _standing_behind(site, starts, tour)
    # What was waited ahead of the tour counts no more from the second time on.
    greatest = {name: 0 for name in site.names}
    stood = {}
    for move in tour:
        standing = behind(site, standing, move)
        walkers, waits = standing
        stood.update({place: True for place, left in walkers if left == 0})
        greatest = {name: max(greatest[name], wait) for name, wait in zip(site.names, waits)}
    return {name: greatest[name] if name in stood else None for name in site.names}


def keeps_limits(site, starts, tour):
    """Whether a tour keeps the limits; raises BadStarts(), BadMove(index), then NotBack()."""
    greatest = greatest_waits(site, starts, tour)
    return all([_is_within(greatest[name], limit) for name, limit in zip(site.names, site.limits)])


def distances(site, starts, standing):
    """A dict from all calm standings to their distances to one; raises BadStarts(), TooLarge(), then NotCalm()."""
    graph, number = _calm_one(site, starts, standing)
    found = distances_to(graph.arrows, number)
    return {node: found.get(start) for start, node in enumerate(graph.nodes)}


def way_back(site, starts, standing):
    """A shortest list of moves from a calm standing back to it, None if there is none; raises as distances does."""
    graph, number = _calm_one(site, starts, standing)
    return shortest_way(graph.arrows, number, number)


def shortest_tour(site, starts):
    """A shortest tour that keeps the limits, None if there is none; raises BadStarts(), then TooLarge()."""
    graph = calm_graph(site, starts)
    beginning, _ = graph.nodes[0]
    best = None
    # Behind a tour that keeps the limits the waits are those of its end each time, so
    # that it is a way back of a calm standing; and each way back waits for no place for ever.
    for number, (walkers, _) in enumerate(graph.nodes):
        if walkers == beginning:
            tour = shortest_way(graph.arrows, number, number)
            if tour is not None and (best is None or len(tour) < len(best)):
                best = tour
    return best


def _standing_behind(site, starts, tour):
    """The standing behind a tour that is made once; raises BadStarts(), BadMove(index), then NotBack()."""
    beginning, _ = start_of(site, starts)
    standings = followed(site, starts, tour)
    if not standings:
        raise BadMove(0)
    walkers, _ = standings[-1]
    if walkers != beginning:
        raise NotBack()
    return standings[-1]


def _is_within(wait, limit):
    return wait is not None and wait <= limit


def _calm_one(site, starts, standing):
    """The graph of the calm standings, and the number of one; raises BadStarts(), TooLarge(), then NotCalm()."""
    graph = calm_graph(site, starts)
    number = number_in(site, graph, standing)
    if number is None:
        raise NotCalm()
    return graph, number
