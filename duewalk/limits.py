"""Limits: how far they can be lowered, and how much greater all of them must be."""

from duewalk.errors import UnknownPlace
from duewalk.graphs import lost_times
from duewalk.keeping import calm_graph, is_kept_graph, kept_graph
from duewalk.sites import with_limits
from duewalk.walks import is_place, start_of

MOST_STRETCH = 9


def least_limit(site, starts, place):
    """The least limit of a place; raises BadStarts(), UnknownPlace(place), TooLarge(), then NotKept()."""
    start_of(site, starts)
    if not is_place(site, place):
        raise UnknownPlace(place)
    graph = kept_graph(site, starts)
    return _least_at(graph, list(site.limits), site.names.index(place))


def tight_limits(site, starts):
    """The list of the tight limits; raises BadStarts(), TooLarge(), then NotKept()."""
    graph = kept_graph(site, starts)
    limits = list(site.limits)
    for at in range(len(limits)):
        limits[at] = _least_at(graph, limits, at)
    return limits


def stretch(site, starts):
    """The stretch of a site, None if there is none; raises BadStarts(), then TooLarge()."""
    for more in range(MOST_STRETCH + 1):
        greater = with_limits(site, [limit + more for limit in site.limits])
        if is_kept_graph(calm_graph(greater, starts)):
            return more
    return None


def _least_at(graph, limits, at):
    """The least limit of the place with a number with which a graph is kept, the other limits as told."""
    limit = limits[at]
    # Greater limits never harm, so that the first lower one that will not do ends the search.
    while limit > 0 and _is_kept_within(graph, limits[:at] + [limit - 1] + limits[at + 1:]):
        limit -= 1
    return limit


def _is_kept_within(graph, limits):
    """Whether a graph is kept with limits none of which is above those that it was made with."""
    # With lower limits just some of its standings are calm: no other ones come to them.
    calm = [_are_within(standing, limits) for standing in graph.nodes]
    rows = [[(move, end) for move, end in row if calm[end]] for row in graph.arrows]
    return 0 not in lost_times(rows)


def _are_within(standing, limits):
    _, waits = standing
    return all([wait <= limit for wait, limit in zip(waits, limits)])
