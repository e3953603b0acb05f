"""Requests, rules, toil and stores for the tests, worked out in plain slow ways by the words of the document."""

import random
from fractions import Fraction

from duewalk.requests import Asking
from duewalk.rules import Rule
from duewalk.walks import followed, has_breach, moves_from, start_of, stepped
from oracles import some_site


def requests_of(asking, position):
    """The requests that may be made at a position."""
    return [None] + list(asking.places) if position[2] == 0 else [None]


def stands_at(standing, place):
    return (place, 0) in standing[0]


def told_by_history(site, starts, asking, requests, moves):
    """By point 16: (index of the first bad step, None if there is none; the position behind all steps)."""
    standings = followed(site, starts, moves)
    bad = {at for at, standing in enumerate(standings) if has_breach(site, standing)}
    asked = None
    for at, place in enumerate(requests):
        if place is not None:
            looked_at = standings[at:at + asking.answer]
            if not any(stands_at(standing, place) for standing in looked_at):
                if len(looked_at) == asking.answer:
                    bad.add(at + asking.answer - 1)
                else:
                    asked = place
    since = [len(requests) - at for at, place in enumerate(requests) if place is not None]
    rest = max(0, asking.pause - min(since)) if since else 0
    return min(bad, default=None), ((standings or [start_of(site, starts)])[-1], asked, rest)


def are_allowed(asking, requests):
    """Whether each request of a list of names and None may be made by point 16."""
    for at, place in enumerate(requests):
        if place is not None:
            ahead = requests[max(0, at - asking.pause + 1):at]
            if place not in asking.places or any(other is not None for other in ahead):
                return False
    return True


def step_behind(site, asking, position, request, move):
    """The position behind a step, None if it is bad."""
    standing, asked, rest = position
    after = stepped(site, standing, move)
    if has_breach(site, after):
        return None
    place, made = (request, 1) if request is not None else (asked, asking.pause - rest + 1)
    later = asking.pause - 1 if request is not None else max(0, rest - 1)
    if place is None or stands_at(after, place):
        return after, None, later
    return None if made == asking.answer else (after, place, later)


def position_graph(site, starts, asking):
    """For each calm position a dict from requests to dicts from moves that are not bad to positions."""
    graph = {}
    waiting = [(start_of(site, starts), None, 0)]
    while waiting:
        position = waiting.pop()
        if position not in graph:
            graph[position] = {request: {} for request in requests_of(asking, position)}
            for request, row in graph[position].items():
                for move in moves_from(site, position[0]):
                    after = step_behind(site, asking, position, request, move)
                    if after is not None:
                        row[move] = after
                waiting.extend(row.values())
    return graph


def tuples_of(site, graph):
    return sum(len(row) * len(moves_from(site, position[0])) for position, row in graph.items())


def request_times(graph):
    """For each position a dict from the requests that have a time to it, found round by round as point 18 says."""
    times = {node: {} for node in graph}
    n = -1
    while True:
        new = []
        for node, row in graph.items():
            for request, moves in row.items():
                behind = [min(times[after].values(), default=None) for after in moves.values()]
                if request not in times[node] and None not in behind and max(behind, default=-1) == n:
                    new.append((node, request))
        if not new and n >= 0:
            return times
        n += 1
        for node, request in new:
            times[node][request] = n


def broken_times(graph):
    return {node: min(row.values()) for node, row in request_times(graph).items() if row}


def toil_by_point_23(standing, move):
    stays = [left == 0 and end == place for (place, left), end in zip(standing[0], move)]
    return stays.count(False)


def with_units(graph, size, standing_of):
    """A graph of positions or the like with units: only steps for which there are enough."""
    stocked = {}
    for node, row in graph.items():
        for units in range(size + 1):
            stocked[node, units] = {request: {} for request in row}
            for request, moves in row.items():
                for move, after in moves.items():
                    toil = toil_by_point_23(standing_of(node), move)
                    if toil == 0:
                        stocked[node, units][request][move] = after, min(size, units + 1)
                    elif toil <= units:
                        stocked[node, units][request][move] = after, units - toil
    return stocked


def needs_by_point_26(stocked, size):
    """For each node the least units with which it can go on for ever, from a graph with units."""
    broken = broken_times(stocked)
    nodes = [node for node, units in stocked if units == 0]
    return {node: min([units for units in range(size + 1) if (node, units) not in broken], default=None) for node in nodes}


def least_share(arrows):
    """The least share of cost of all loops of a list of arrows (start, end, cost), by Karp's rule; None if no loop."""
    nodes = {node for start, end, _ in arrows for node in (start, end)}
    sums = [{node: 0 for node in nodes}]
    for _ in nodes:
        row = {}
        for start, end, cost in arrows:
            if start in sums[-1]:
                worth = sums[-1][start] + cost
                row[end] = min(worth, row.get(end, worth))
        sums.append(row)
    most = len(nodes)
    shares = [max(Fraction(total - sums[many][node], most - many) for many in range(most) if node in sums[many])
              for node, total in sums[most].items()]
    return min(shares, default=None)


def some_asking(chance, site, many=None):
    answer = chance.randint(1, 6)
    pause = chance.randint(answer, min(12, answer + 3))
    places = chance.sample(site.names, chance.randint(0, len(site.names)) if many is None else many)
    return Asking(places, answer, pause)


def some_askings(seed, many, most_places=3, most_positions=150):
    """Tuples (site, starts, asking, position graph) by chance, none with many calm positions."""
    chance = random.Random(seed)
    found = []
    while len(found) < many:
        site = some_site(chance, chance.randint(1, most_places))
        starts = [chance.choice(site.names) for _ in range(chance.choice((1, 1, 2)))]
        asking = some_asking(chance, site)
        graph = few_positions(site, starts, asking, most_positions)
        if graph is not None:
            found.append((site, starts, asking, graph))
    return found


def few_positions(site, starts, asking, most):
    """The graph of the calm positions, None if there are more than may be."""
    seen = {(start_of(site, starts), None, 0)}
    waiting = list(seen)
    while waiting:
        position = waiting.pop()
        for request in requests_of(asking, position):
            for move in moves_from(site, position[0]):
                after = step_behind(site, asking, position, request, move)
                if after is not None and after not in seen:
                    seen.add(after)
                    waiting.append(after)
        if len(seen) > most:
            return None
    return position_graph(site, starts, asking)


def some_rule(chance, site, starts, asking, graph=None):
    """A rule by chance; with the graph of the positions one that holds to what is won, where it can."""
    many = chance.randint(1, 6)
    rows = [{} for _ in range(many)]
    for row in rows:
        for request in [None] + list(asking.places):
            row[request] = chance.randrange(many), tuple(chance.choice(site.names) for _ in starts)
    return Rule(rows)


def rule_move(site, standing, ends):
    """The move that a rule gives walkers, None if they may not make it."""
    move = tuple(None if left else end for (_, left), end in zip(standing[0], ends))
    return move if move in moves_from(site, standing) else None


def rule_step(site, asking, states, post, request):
    """(toil, next post) of the step of a rule, None if it is bad."""
    position, state = post
    later, ends = states[state][request]
    move = rule_move(site, position[0], ends)
    after = None if move is None else step_behind(site, asking, position, request, move)
    return None if after is None else (toil_by_point_23(position[0], move), (after, later))


def first_bad(site, starts, asking, rule, requests):
    """The index of the first bad step of a rule with a list of requests, by their whole history; None if none is."""
    standing, state, moves = start_of(site, starts), 0, []
    for at, request in enumerate(requests):
        state, ends = rule.states()[state][request]
        move = rule_move(site, standing, ends)
        if move is None:
            return at
        moves.append(move)
        index, (standing, _, _) = told_by_history(site, starts, asking, requests[:at + 1], moves)
        if index is not None:
            return index
    return None


def rule_graph(site, starts, asking, rules):
    """For each tuple of posts of rules that no bad step leads to, a dict from requests to lists of steps."""
    tables = [rule.states() for rule in rules]
    graph = {}
    waiting = [tuple(((start_of(site, starts), None, 0), 0) for _ in rules)]
    while waiting:
        later = []
        for posts in waiting:
            if posts not in graph:
                graph[posts] = {request: [rule_step(site, asking, states, post, request) for states, post in zip(tables, posts)]
                                for request in requests_of(asking, posts[0][0])}
                later.extend(tuple(after for _, after in steps) for steps in graph[posts].values() if None not in steps)
        waiting = later
    return graph


def least_length(site, starts, asking, rules):
    """The length of a shortest list that the first rule does not keep and the others keep, None if there is none."""
    graph = rule_graph(site, starts, asking, rules)
    reached, seen, length = set(list(graph)[:1]), set(), 0
    while reached:
        length += 1
        later = set()
        for posts in reached:
            for steps in graph[posts].values():
                if steps[0] is None and None not in steps[1:]:
                    return length
                if None not in steps:
                    later.add(tuple(after for _, after in steps))
        seen |= reached
        reached = later - seen
    return None


def tame_rule(chance, site, starts, asking):
    """A rule by chance that mostly gives the walkers what they may do, and goes where a request is."""
    walkers = [start_of(site, starts)[0]]
    rows = []
    many = chance.randint(1, 6)
    while len(rows) < len(walkers):
        row = {}
        standing = walkers[len(rows)], (0,) * len(site.names)
        for request in [None] + list(asking.places):
            moves = moves_from(site, ends_known(site, standing))
            to_it = [move for move in moves if request in move]
            move = chance.choice(to_it if to_it and chance.random() < 0.8 else moves)
            behind = stepped(site, ends_known(site, standing), move)[0]
            if behind not in walkers and len(walkers) < many:
                walkers.append(behind)
            later = walkers.index(behind) if behind in walkers else chance.randrange(len(walkers))
            row[request] = later, tuple(end or chance.choice(site.names) for end in move)
        rows.append(row)
    return Rule(rows)


def ends_known(site, standing):
    """The walkers with waits that do not matter."""
    walkers, _ = standing
    return walkers, tuple(0 if (name, 0) in walkers else 1 for name in site.names)
