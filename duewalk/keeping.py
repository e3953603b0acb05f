"""What can be kept for ever: calm standings, safe and lost ones, and plans."""

from duewalk.errors import BadStarts, NotKept
from duewalk.graphs import explored, lost_times
from duewalk.walks import behind, is_breached, is_pair, is_standing, moves_of, start_of

MOST_STANDINGS = 600
MOST_MOVES = 4000


def calm_standings(site, starts):
    """The list of the calm standings; raises BadStarts(), then TooLarge()."""
    return calm_graph(site, starts).nodes


def safe_table(site, starts):
    """A dict from the safe standings to moves that lead to safe ones; raises BadStarts(), then TooLarge()."""
    graph = calm_graph(site, starts)
    lost = lost_times(graph.arrows)
    table = {}
    for number, standing in enumerate(graph.nodes):
        if number not in lost:
            table[standing], _ = _safe_arrow(graph, lost, number)
    return table


def time_table(site, starts):
    """A dict from the lost standings to their times; raises BadStarts(), then TooLarge()."""
    graph = calm_graph(site, starts)
    return {graph.nodes[number]: time for number, time in lost_times(graph.arrows).items()}


def are_safe(site, starts, table):
    """Whether any value is a safe table; raises BadStarts(), then TooLarge()."""
    graph = calm_graph(site, starts)
    lost = lost_times(graph.arrows)
    if not isinstance(table, dict) or len(table) != len(graph.nodes) - len(lost):
        return False
    return all([_is_safe_choice(site, graph, lost, standing, move) for standing, move in table.items()])


def kept_plan(site, starts):
    """A plan, None if the site is not kept; raises BadStarts(), then TooLarge()."""
    graph = calm_graph(site, starts)
    lost = lost_times(graph.arrows)
    if 0 in lost:
        return None
    moves = []
    met = {}
    at = 0
    while at not in met:
        met[at] = len(moves)
        move, at = _safe_arrow(graph, lost, at)
        moves.append(move)
    return moves[:met[at]], moves[met[at]:]


def is_plan(site, starts, plan):
    """Whether any value is a plan; raises BadStarts(), then TooLarge()."""
    return is_plan_of(calm_graph(site, starts), plan)


def longest_time(site, starts):
    """The time of the beginning, None if it is safe; raises BadStarts(), then TooLarge()."""
    return lost_times(calm_graph(site, starts).arrows).get(0)


def fewest_walkers(site, starts):
    """How many of two walkers are needed, None if both are too few; raises BadStarts(), then TooLarge()."""
    walkers, _ = start_of(site, starts)
    if len(walkers) != 2:
        raise BadStarts()
    for many in (1, 2):
        if is_kept_graph(calm_graph(site, starts[:many])):
            return many
    return None


def calm_graph(site, starts, most_standings=MOST_STANDINGS):
    """The calm standings with the moves that are not bad; raises BadStarts(), then TooLarge()."""
    return graph_from(site, start_of(site, starts), most_standings)


def kept_graph(site, starts):
    """The calm standings of a site that is kept; raises BadStarts(), TooLarge(), then NotKept()."""
    graph = calm_graph(site, starts)
    if not is_kept_graph(graph):
        raise NotKept()
    return graph


def graph_from(site, standing, most_standings=MOST_STANDINGS):
    """What can be reached from a standing by moves that are not bad; raises TooLarge()."""
    return explored(standing, lambda node: _calm_steps(site, node), most_standings, MOST_MOVES)


def is_kept_graph(graph):
    """Whether a walk from the first node of a graph goes on for ever."""
    return 0 not in lost_times(graph.arrows)


def is_plan_of(graph, plan):
    """Whether any value is a plan from the first node of a graph."""
    if not is_pair(plan):
        return False
    run, loop = plan
    if not isinstance(run, list) or not isinstance(loop, list) or not loop:
        return False
    entry = number_behind(graph, 0, run)
    return entry is not None and number_behind(graph, entry, loop) == entry


def number_behind(graph, number, run):
    """The number behind a list of things, None if one of them is no move that is not bad."""
    for move in run:
        if number is not None:
            number = graph.target(number, move)
    return number


def number_in(site, graph, value):
    """The number of a standing of a graph, which may be any value; None if it is none of them."""
    # True and 1 are equal keys of a dict, so that the kinds must be looked at, too.
    return graph.numbers.get(value) if is_standing(site, value) else None


def _calm_steps(site, standing):
    """All moves with the standings behind them, None in place of those with a breach."""
    walkers, _ = standing
    steps = []
    for move in moves_of(site, walkers):
        after = behind(site, standing, move)
        steps.append((move, None if is_breached(site, after) else after))
    return steps


def _safe_arrow(graph, lost, number):
    """An arrow from a safe standing to a safe one."""
    return [(move, end) for move, end in graph.arrows[number] if end not in lost][0]


def _is_safe_choice(site, graph, lost, standing, move):
    """Whether any two values are a safe standing and a move that leads to a safe one."""
    number = number_in(site, graph, standing)
    if number is None:
        return False
    # Only from a safe standing does a move lead to a safe one.
    end = graph.target(number, move)
    return end is not None and end not in lost
