"""Sites for the tests, and what the document says of them, worked out in plain slow ways from duewalk.walks alone."""

import random
from fractions import Fraction

from duewalk.errors import WalkError
from duewalk.sites import Site
from duewalk.walks import has_breach, moves_from, start_of, stepped

LINE = Site.parse("a 3 -> b 1\nb 1 -> a 1 c 1\nc 3 -> b 1")
TIGHT_LINE = Site.parse("a 3 -> b 1\nb 1 -> a 1 c 1\nc 2 -> b 1")
WIDE_LINE = Site.parse("a 9 -> b 1\nb 9 -> a 1 c 1\nc 9 -> b 1")
SHORT_LINE = Site.parse("a 1 -> b 1\nb 1 -> a 1 c 1\nc 1 -> b 1")
ONE = Site.parse("a 0 stay")
PAIR = Site.parse("a 0 -> b 1\nb 0 -> a 1")
FAR_PAIR = Site.parse("a 5 -> b 3\nb 5 -> a 3")
# A place to which no way leads, and one from which none leads.
NO_WAY_TO = Site.parse("a 2 -> b 1\nb 0 stay")
RING = Site.parse("a 9 -> b 2\nb 9 -> c 3\nc 9 -> d 1\nd 9 stay -> a 2")
CASES = [
    (LINE, ["a"]), (LINE, ["b"]), (LINE, ["c", "a"]), (LINE, ["a", "a"]), (TIGHT_LINE, ["a"]), (TIGHT_LINE, ["b", "c"]),
    (WIDE_LINE, ["a"]), (SHORT_LINE, ["b"]), (SHORT_LINE, ["a", "c"]), (ONE, ["a"]), (ONE, ["a", "a"]), (PAIR, ["a"]),
    (PAIR, ["b", "a"]), (PAIR, ["a", "a"]), (FAR_PAIR, ["b"]), (FAR_PAIR, ["a", "b"]), (NO_WAY_TO, ["a"]),
    (NO_WAY_TO, ["b"]), (NO_WAY_TO, ["a", "b"]), (NO_WAY_TO, ["b", "b"]), (RING, ["c"]),
]


def raised(call, *values, **named):
    """The class of the error of a call, with the value of its attribute if it has one; None if there is no error."""
    try:
        call(*values, **named)
    except WalkError as error:
        return (type(error), *vars(error).values())
    return None


def some_cases(seed, many, most_places=4, most_moves=400):
    """Pairs of a site and starts by chance, none with many moves from its standings, calm or by point 14."""
    chance = random.Random(seed)
    cases = []
    while len(cases) < many:
        site = some_site(chance, chance.randint(1, most_places))
        starts = [chance.choice(site.names) for _ in range(chance.choice((1, 1, 2)))]
        if within(site, starts, most_moves):
            cases.append((site, starts))
    return cases


def some_site(chance, places):
    names = "abcdef"[:places]
    thick = chance.choice((0.4, 0.7, 1))
    long = chance.choice(((1,), (1, 1, 1, 2, 3)))
    low, high = chance.choice(((0, 9), (0, 3), (2, 6)))
    rows = []
    for name in names:
        ways = [f" {end} {chance.choice(long)}" for end in names if end != name and chance.random() < thick]
        stay = not ways or chance.random() < 0.3
        rows.append(f"{name} {chance.randint(low, high)}" + " stay" * stay + " ->" * bool(ways) + "".join(ways))
    return Site.parse("\n".join(rows))


def within(site, starts, most_moves):
    return all(sum(len(moves_from(site, node)) for node in found(site, starts, most_moves)) <= most_moves
               for found in (calm_graph, late_graph))


def calm_graph(site, starts, most=None):
    """For each calm standing a dict from the moves that are not bad to the standings behind them."""
    return graph_from(site, start_of(site, starts), most)


def graph_from(site, standing, most=None):
    def allowed(standing):
        return {move: after for move, after in steps_of(site, standing) if not has_breach(site, after)}
    return reached_from(standing, allowed, most)


def late_graph(site, starts, most=None):
    """For each standing by point 14 that can be reached a dict from all moves to the standings behind them."""
    def allowed(standing):
        return {move: counted(site, after) for move, after in steps_of(site, standing)}
    return reached_from(start_of(site, starts), allowed, most)


def reached_from(node, allowed, most):
    graph = {}
    waiting = [node]
    while waiting:
        node = waiting.pop()
        if node not in graph:
            graph[node] = allowed(node)
            waiting.extend(graph[node].values())
        if most is not None and len(graph) > most:
            break
    return graph


def steps_of(site, standing):
    return [(move, stepped(site, standing, move)) for move in moves_from(site, standing)]


def counted(site, standing):
    walkers, waits = standing
    return walkers, tuple(min(wait, limit + 1) for wait, limit in zip(waits, site.limits))


def late_places(site, standing):
    return sum(wait > limit for wait, limit in zip(standing[1], site.limits))


def size_of(site, starts, graph):
    """How many standings a graph has, and how many moves, the bad ones included, lead from them."""
    return len(graph), sum(len(moves_from(site, standing)) for standing in graph)


def times_of(graph):
    """The times of what is lost, found round by round."""
    times = {}
    while True:
        new = {node: max([times[after] + 1 for after in steps.values()], default=0)
               for node, steps in graph.items()
               if node not in times and all(after in times for after in steps.values())}
        if not new:
            return times
        times.update(new)


def safe_of(graph):
    times = times_of(graph)
    return {node for node in graph if node not in times}


def is_kept(site, starts):
    return start_of(site, starts) in safe_of(calm_graph(site, starts))


def distances_of(graph, goal):
    """The least number of moves, one or more, to a goal, by adding one more move until nothing changes."""
    distances = {node: None for node in graph}
    changed = True
    while changed:
        changed = False
        for node, steps in graph.items():
            ahead = [1 if after == goal else distances[after] + 1 for after in steps.values()
                     if after == goal or distances[after] is not None]
            if ahead and (distances[node] is None or min(ahead) < distances[node]):
                distances[node] = min(ahead)
                changed = True
    return distances


def least_share_of(site, graph, beginning):
    """The least share by Karp's rule: of the ends of walks with so many moves as there are standings."""
    most = len(graph)
    sums = [{beginning: 0}]
    for _ in range(most):
        row = {}
        for node, total in sums[-1].items():
            for after in graph[node].values():
                worth = total + late_places(site, after)
                if worth < row.get(after, worth + 1):
                    row[after] = worth
        sums.append(row)
    shares = [max(Fraction(total - sums[many][node], most - many) for many in range(most) if node in sums[many])
              for node, total in sums[most].items()]
    return min(shares)
