"""Requests: the rules for them, calm positions, and who wins each: those who walk or the one who asks."""

from duewalk.errors import BadAsking, UnknownPlace
from duewalk.graphs import explored, round_times, time_of
from duewalk.sites import MOST_PLACES, is_name
from duewalk.walks import behind, is_breached, is_pair, is_place, is_standing, is_whole, moves_of, start_of

MOST_ANSWER = 9
MOST_PAUSE = 12
MOST_POSITIONS = 1000
MOST_TUPLES = 6000


class Asking:
    """Rules for requests: the places that may be requested, the steps for an answer, and the pause."""

    def __init__(self, places, answer, pause):
        """Each may be any value; raises BadAsking()."""
        if not _are_askable(places) or not is_whole(answer) or not is_whole(pause):
            raise BadAsking()
        if not 1 <= answer <= MOST_ANSWER or not answer <= pause <= MOST_PAUSE:
            raise BadAsking()
        self.places = tuple(places)
        self.answer = answer
        self.pause = pause

    def __eq__(self, other):
        return (
            isinstance(other, Asking)
            and self.places == other.places
            and self.answer == other.answer
            and self.pause == other.pause
        )


def calm_positions(site, starts, asking):
    """The list of the calm positions; raises BadStarts(), UnknownPlace(place), then TooLarge(), as all here do."""
    return position_graph(site, starts, asking, MOST_POSITIONS).nodes


def is_won(site, starts, asking):
    """Whether the position at the beginning is won."""
    _, _, times = _judged(site, starts, asking)
    return 0 not in times


def walking_table(site, starts, asking):
    """A dict from the won positions to dicts from requests to moves that lead to won positions."""
    graph, rows, times = _judged(site, starts, asking)
    table = {}
    for number, position in enumerate(graph.nodes):
        if number not in times:
            table[position] = {request: _won_move(arrows, times) for request, arrows in rows[number].items()}
    return table


def requesting_table(site, starts, asking):
    """A dict from the broken positions to pairs of a request with the least time, and this time."""
    graph, rows, times = _judged(site, starts, asking)
    table = {}
    for number, time in times.items():
        table[graph.nodes[number]] = _soonest(rows[number], times, time)[0], time
    return table


def are_walking(site, starts, asking, table):
    """Whether any value is a walking table."""
    graph, rows, times = _judged(site, starts, asking)
    if not isinstance(table, dict) or len(table) != len(graph.nodes) - len(times):
        return False
    told = [(_number_in(site, graph, position), moves) for position, moves in table.items()]
    return all([
        number is not None and number not in times and _are_won_moves(rows[number], times, moves)
        for number, moves in told
    ])


def are_requesting(site, starts, asking, table):
    """Whether any value is a requesting table."""
    graph, rows, times = _judged(site, starts, asking)
    if not isinstance(table, dict) or len(table) != len(times):
        return False
    told = [(_number_in(site, graph, position), pair) for position, pair in table.items()]
    return all([
        number in times and _is_soonest(rows[number], times, times[number], pair)
        for number, pair in told
    ])


def first_position(site, starts, asking):
    """The position at the beginning; raises BadStarts(), then UnknownPlace(place)."""
    beginning = start_of(site, starts)
    for place in asking.places:
        if not is_place(site, place):
            raise UnknownPlace(place)
    return beginning, None, 0


def position_graph(site, starts, asking, most_positions):
    """The calm positions, with arrows that have pairs of a request and a move as their labels.

    Raises BadStarts(), UnknownPlace(place), then TooLarge().
    """
    beginning = first_position(site, starts, asking)
    return explored(beginning, lambda position: _steps_from(site, asking, position), most_positions, MOST_TUPLES)


def request_rows(asking, graph):
    """For each number a dict from all requests that may be made to lists of pairs of a move and its end."""
    rows = []
    for (_, _, rest), arrows in zip(graph.nodes, graph.arrows):
        row = {request: [] for request in requests_at(asking, rest)}
        for (request, move), end in arrows:
            row[request].append((move, end))
        rows.append(row)
    return rows


def requests_at(asking, rest):
    """The list of all requests that may be made while so many steps must still be made before the next one."""
    return [None] if rest else [None] + list(asking.places)


def rest_behind(asking, rest, request):
    """The steps that must still be made behind a step before the next request."""
    return max(0, rest - 1) if request is None else asking.pause - 1


def position_behind(site, asking, position, request, move):
    """The position behind a step that may be made, None if the step is bad."""
    standing, asked, rest = position
    after = behind(site, standing, move)
    if is_breached(site, after):
        return None
    later = rest_behind(asking, rest, request)
    # Only one request can be waiting: the next one may be made when it is answered or missed at the latest.
    waiting = asked if request is None else request
    if waiting is not None and (waiting, 0) in after[0]:
        waiting = None
    if waiting is not None and asking.pause - later == asking.answer:
        return None
    return after, waiting, later


def _are_askable(value):
    """Whether any value is a list of names, each once."""
    if not isinstance(value, list) or len(value) > MOST_PLACES:
        return False
    return all([isinstance(name, str) and is_name(name) and value.count(name) == 1 for name in value])


def _steps_from(site, asking, position):
    """All pairs of a request and a move, with the positions behind them, None in place of those of bad steps."""
    (walkers, _), _, rest = position
    moves = moves_of(site, walkers)
    return [
        ((request, move), position_behind(site, asking, position, request, move))
        for request in requests_at(asking, rest) for move in moves
    ]


def _judged(site, starts, asking):
    """(graph of the calm positions, rows of the requests, times of the broken ones by their numbers)."""
    graph = position_graph(site, starts, asking, MOST_POSITIONS)
    rows = request_rows(asking, graph)
    return graph, rows, round_times([[[end for _, end in arrows] for arrows in row.values()] for row in rows])


def _won_move(arrows, times):
    """A move that leads to a won position."""
    return [move for move, end in arrows if end not in times][0]


def _number_in(site, graph, value):
    """The number of a position, which may be any value; None if it is no calm one."""
    if not isinstance(value, tuple) or len(value) != 3:
        return None
    standing, asked, rest = value
    # True and 1 are equal keys of a dict, so that the kinds must be looked at, too.
    if not is_standing(site, standing) or not is_whole(rest) or not (asked is None or is_place(site, asked)):
        return None
    return graph.numbers.get(value)


def _are_won_moves(row, times, value):
    """Whether any value is a dict from all requests of a row to moves that lead to won positions."""
    if not isinstance(value, dict) or len(value) != len(row):
        return False
    return all([
        request in value and value[request] in [move for move, end in arrows if end not in times]
        for request, arrows in row.items()
    ])


def _is_soonest(row, times, time, value):
    """Whether any value is a pair of a request with a time and this time, the least one of a row."""
    if not is_pair(value):
        return False
    return value[0] in _soonest(row, times, time) and is_whole(value[1]) and value[1] == time


def _soonest(row, times, time):
    """The requests of a row that have a time, the least one."""
    return [request for request, arrows in row.items() if time_of([end for _, end in arrows], times) == time]
