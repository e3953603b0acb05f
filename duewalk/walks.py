"""Walks: standings, moves, breaches, and what lies behind lists of moves."""

from duewalk.errors import BadMove, BadStanding, BadStarts

MOST_WALKERS = 2


def start_of(site, starts):
    """The standing at the beginning; raises BadStarts()."""
    if not isinstance(starts, list) or not 1 <= len(starts) <= MOST_WALKERS:
        raise BadStarts()
    if not all([is_place(site, name) for name in starts]):
        raise BadStarts()
    return tuple([(name, 0) for name in starts]), tuple([0 for _ in site.names])


def moves_from(site, standing):
    """The list of all moves from a standing; raises BadStanding()."""
    _check_standing(site, standing)
    walkers, _ = standing
    return moves_of(site, walkers)


def stepped(site, standing, move):
    """The standing behind a move; raises BadStanding(), then BadMove(0)."""
    _check_standing(site, standing)
    if not is_move(site, standing, move):
        raise BadMove(0)
    return behind(site, standing, move)


def has_breach(site, standing):
    """Whether a standing has a breach; raises BadStanding()."""
    _check_standing(site, standing)
    return is_breached(site, standing)


def followed(site, starts, run):
    """The standings behind the moves of a list; raises BadStarts(), then BadMove(index)."""
    standing = start_of(site, starts)
    if not isinstance(run, list):
        raise BadMove(0)
    standings = []
    for index, move in enumerate(run):
        if not is_move(site, standing, move):
            raise BadMove(index)
        standing = behind(site, standing, move)
        standings.append(standing)
    return standings


def is_place(site, value):
    """Whether any value is the name of a place."""
    return isinstance(value, str) and value in site.names


def is_whole(value):
    """Whether any value is an integer; True and False are none."""
    return isinstance(value, int) and not isinstance(value, bool)


def is_pair(value):
    """Whether any value is a tuple of two things."""
    return isinstance(value, tuple) and len(value) == 2


def is_standing(site, value):
    """Whether any value is a standing."""
    if not is_pair(value):
        return False
    walkers, waits = value
    return _are_walkers(site, walkers) and _are_waits(site, walkers, waits)


def is_move(site, standing, value):
    """Whether any value is a move from a standing."""
    walkers, _ = standing
    return isinstance(value, tuple) and value in moves_of(site, walkers)


def is_breached(site, standing):
    """Whether the wait of some place is above its limit; the standing is not checked."""
    _, waits = standing
    return any([wait > limit for wait, limit in zip(waits, site.limits)])


def moves_of(site, walkers):
    """The list of all moves of walkers; they are not checked."""
    moves = [()]
    for place, left in walkers:
        ends = [None] if left else _ends_from(site, place)
        moves = [move + (end,) for move in moves for end in ends]
    return moves


def behind(site, standing, move):
    """The standing behind a move; neither of them is checked."""
    walkers, waits = standing
    after = tuple([_walker_behind(site, walker, end) for walker, end in zip(walkers, move)])
    stood = _stood_at(after)
    return after, tuple([0 if name in stood else wait + 1 for name, wait in zip(site.names, waits)])


def _ends_from(site, place):
    """What a walker that stands at a place may be given to do."""
    at = site.names.index(place)
    ends = [end for end, _ in site.ways[at]]
    return [place] + ends if site.stays[at] else ends


def _walker_behind(site, walker, end):
    place, left = walker
    if end is None:
        return place, left - 1
    if end == place:
        return place, 0
    return end, _steps_of(site, place, end) - 1


def _steps_of(site, place, end):
    """The steps of the way from a place to an end."""
    ways = site.ways[site.names.index(place)]
    return [steps for name, steps in ways if name == end][0]


def _stood_at(walkers):
    """The places where walkers stand."""
    return [place for place, left in walkers if left == 0]


def _check_standing(site, value):
    if not is_standing(site, value):
        raise BadStanding()


def _are_walkers(site, value):
    if not isinstance(value, tuple) or not 1 <= len(value) <= MOST_WALKERS:
        return False
    return all([_is_walker(site, walker) for walker in value])


def _is_walker(site, value):
    if not is_pair(value):
        return False
    place, left = value
    return is_place(site, place) and is_whole(left) and 0 <= left <= _most_left(site, place)


def _most_left(site, place):
    """The most steps that can be left to a place: those of the longest way to it less one."""
    return max([steps - 1 for ways in site.ways for end, steps in ways if end == place], default=0)


def _are_waits(site, walkers, value):
    if not isinstance(value, tuple) or len(value) != len(site.names):
        return False
    if not all([is_whole(wait) and wait >= 0 for wait in value]):
        return False
    stood = _stood_at(walkers)
    return all([wait == 0 for name, wait in zip(site.names, value) if name in stood])
