"""Sessions: walkers that are followed while limits and ways change."""

from duewalk.errors import BadLimit, BadMove, BadWay, NoDeed, TooManyWalkers, UnknownPlace
from duewalk.graphs import lost_times
from duewalk.keeping import graph_from
from duewalk.sites import MOST_LIMIT, MOST_STEPS, Site, with_limits
from duewalk.walks import MOST_WALKERS, behind, is_move, is_place, is_whole, moves_of, start_of


class Session:
    """A site, walkers and a standing, with the deeds that led there."""

    def __init__(self, site, starts):
        """Raises BadStarts()."""
        # The site and the standing at the beginning and behind each deed.
        self._past = [(site, start_of(site, starts))]

    def site(self):
        """The site of now."""
        site, _ = self._past[-1]
        return site

    def standing(self):
        """The standing of now."""
        _, standing = self._past[-1]
        return standing

    def deeds(self):
        """The number of deeds that are not taken back."""
        return len(self._past) - 1

    def move(self, move):
        """The walkers make a move, which may be any value; raises BadMove(0)."""
        site, standing = self._past[-1]
        if not is_move(site, standing, move):
            raise BadMove(0)
        self._past.append((site, behind(site, standing, move)))

    def set_limit(self, place, limit):
        """Changes a limit; raises UnknownPlace(place), then BadLimit()."""
        site, standing = self._past[-1]
        _check_place(site, place)
        if not is_whole(limit) or not 0 <= limit <= MOST_LIMIT:
            raise BadLimit()
        limits = [limit if name == place else other for name, other in zip(site.names, site.limits)]
        self._past.append((with_limits(site, limits), standing))

    def open_way(self, first, second, steps):
        """Opens a way; raises UnknownPlace(place) for the first or the second place, then BadWay()."""
        site, standing = self._past[-1]
        _check_place(site, first)
        _check_place(site, second)
        if first == second or _has_way(site, first, second):
            raise BadWay()
        if not is_whole(steps) or not 1 <= steps <= MOST_STEPS:
            raise BadWay()
        self._past.append((_with_ways(site, first, sorted(_ways_of(site, first) + [(second, steps)])), standing))

    def shut_way(self, first, second):
        """Shuts a way; raises UnknownPlace(place) for the first or the second place, then BadWay()."""
        site, standing = self._past[-1]
        _check_place(site, first)
        _check_place(site, second)
        left = [way for way in _ways_of(site, first) if way[0] != second]
        if not _has_way(site, first, second) or not (left or _may_stay(site, first)):
            raise BadWay()
        self._past.append((_with_ways(site, first, left), standing))

    def add_walker(self, place):
        """A second walker comes to a place; raises UnknownPlace(place), then TooManyWalkers()."""
        site, (walkers, waits) = self._past[-1]
        _check_place(site, place)
        if len(walkers) == MOST_WALKERS:
            raise TooManyWalkers()
        waits = tuple([0 if name == place else wait for name, wait in zip(site.names, waits)])
        self._past.append((site, (walkers + ((place, 0),), waits)))

    def back(self):
        """Takes back the last deed that was not taken back; raises NoDeed()."""
        if self.deeds() == 0:
            raise NoDeed()
        self._past.pop()

    def is_kept(self):
        """Whether it can be kept from now on; raises TooLarge()."""
        return self.longest() is None

    def longest(self):
        """The most moves from now that are not bad, None if it can be kept; raises TooLarge()."""
        site, standing = self._past[-1]
        return lost_times(graph_from(site, standing).arrows).get(0)

    def freedom(self):
        """The least number of moves that can end where it can't be kept, None if none can; raises TooLarge()."""
        site, standing = self._past[-1]
        graph = graph_from(site, standing)
        lost = lost_times(graph.arrows)
        reached = [0]
        known = {0: True}
        moves = 0
        while reached:
            if any([number in lost for number in reached]):
                return moves
            moves += 1
            # A bad move has no arrow.
            if any([len(graph.arrows[number]) < _many_moves(site, graph.nodes[number]) for number in reached]):
                return moves
            ends = {end: True for number in reached for _, end in graph.arrows[number] if end not in known}
            known.update(ends)
            reached = list(ends)
        return None


def _check_place(site, value):
    """Raises UnknownPlace(place) if any value is not the name of a place."""
    if not is_place(site, value):
        raise UnknownPlace(value)


def _ways_of(site, place):
    """The list of the ways from a place."""
    return list(site.ways[site.names.index(place)])


def _has_way(site, first, second):
    return second in [end for end, _ in _ways_of(site, first)]


def _may_stay(site, place):
    return site.stays[site.names.index(place)]


def _with_ways(site, place, ways):
    """The site with other ways from a place."""
    rows = [ways if name == place else row for name, row in zip(site.names, site.ways)]
    return Site(site.names, site.limits, site.stays, rows)


def _many_moves(site, standing):
    walkers, _ = standing
    return len(moves_of(site, walkers))
