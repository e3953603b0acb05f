"""Costs: the toil of rules of walking, and the size of the store that they need."""

from duewalk.errors import NotKept
from duewalk.graphs import explored
from duewalk.needs import least_size_of
from duewalk.requests import requests_at
from duewalk.rules import first_post, rule_step
from duewalk.shares import least_loop
from duewalk.stocked import stocked_graph
from duewalk.toil import are_weights_of, move_toil


def rule_toil(site, starts, asking, rule):
    """The toil of a rule.

    Raises BadStarts(), UnknownPlace(place), TooLarge(), Unfit(number), then NotKept(), as all here.
    """
    graph = _post_graph(site, starts, asking, rule)
    (top, bottom), _, _ = least_loop(_spared_rows(graph))
    return -top, bottom


def rule_weights(site, starts, asking, rule):
    """Rule weights for the toil of a rule."""
    graph = _post_graph(site, starts, asking, rule)
    _, _, weights = least_loop(_spared_rows(graph))
    return {post: weight for post, weight in zip(graph.nodes, weights)}


def are_rule_weights(site, starts, asking, rule, share, weights):
    """Whether any value are rule weights for a share."""
    graph = _post_graph(site, starts, asking, rule)
    top, bottom = share
    return are_weights_of(graph, _spared_rows(graph), (-top, bottom), weights)


def rule_size(site, starts, asking, rule):
    """The size that a rule needs, None if there is none."""
    graph = _post_graph(site, starts, asking, rule)
    rows = []
    for post, arrows in zip(graph.nodes, graph.arrows):
        rows.append({request: [(move, end, _step_toil(post, move))] for (request, move), end in arrows})
    return least_size_of(rows)


def _post_graph(site, starts, asking, rule):
    """The posts of a rule that keeps all, with arrows that have pairs of a request and a move as their labels."""
    # Only the errors of the graph count here.
    stocked_graph(site, starts, asking)
    post = first_post(site, starts, asking, [rule])
    states = rule.states()
    graph = explored(post, lambda node: _steps_from(site, asking, states, node))
    if any([len(arrows) < len(_requests_of(asking, node)) for node, arrows in zip(graph.nodes, graph.arrows)]):
        raise NotKept()
    return graph


def _requests_of(asking, post):
    """The requests that may be made at a post."""
    (_, _, rest), _ = post
    return requests_at(asking, rest)


def _steps_from(site, asking, states, post):
    """All pairs of a request and the move that a rule makes then, with the posts behind them, None for a bad step."""
    steps = []
    for request in _requests_of(asking, post):
        move, after = rule_step(site, asking, states, post, request)
        steps.append(((request, move), after))
    return steps


def _spared_rows(graph):
    """For each number, the arrows with their toil below 0 as their costs, so that the least share has the most toil."""
    rows = []
    for post, arrows in zip(graph.nodes, graph.arrows):
        rows.append([(end, -_step_toil(post, move)) for (_, move), end in arrows])
    return rows


def _step_toil(post, move):
    """The toil of a move from a post."""
    ((walkers, _), _, _), _ = post
    return move_toil(walkers, move)
