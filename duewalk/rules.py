"""Rules of walking: what they keep, whatever is requested, and which of two is worth more."""

from duewalk.errors import BadRequest, BadRule, Unfit
from duewalk.graphs import explored, way_to
from duewalk.requests import first_position, position_behind, requests_at, rest_behind
from duewalk.sites import is_name
from duewalk.walks import MOST_WALKERS, is_pair, is_place, is_whole, moves_of

MOST_STATES = 6
MOST_POSTS = 1000


class Rule:
    """States, each with a dict from None and names to pairs (next state, ends)."""

    def __init__(self, states):
        """States may be any value; raises BadRule()."""
        if not _are_states(states):
            raise BadRule()
        self._states = [_copied(row) for row in states]

    def states(self):
        """The list of the dicts of the states, a new one."""
        return [_copied(row) for row in self._states]

    def __eq__(self, other):
        return isinstance(other, Rule) and self._states == other._states


def keeps_list(site, starts, asking, rule, row):
    """Whether a rule keeps an allowed list.

    Raises BadStarts(), UnknownPlace(place), Unfit(number), then BadRequest(index).
    """
    post = first_post(site, starts, asking, [rule])
    _check_row(asking, row)
    states = rule.states()
    for request in row:
        if post is not None:
            _, post = rule_step(site, asking, states, post, request)
    return post is not None


def broken_list(site, starts, asking, rule):
    """A shortest allowed list that a rule does not keep, None if it keeps all.

    Raises BadStarts(), UnknownPlace(place), Unfit(number), then TooLarge().
    """
    return _shortest_list(site, starts, asking, [rule])


def uncovered(site, starts, asking, first, second):
    """A shortest allowed list that the second rule keeps and the first one does not, None if there is none.

    Raises BadStarts(), UnknownPlace(place), Unfit(number), then TooLarge().
    """
    return _shortest_list(site, starts, asking, [first, second])


def first_post(site, starts, asking, rules):
    """The post at the beginning, the same one for all rules.

    Raises BadStarts(), UnknownPlace(place), then Unfit(number).
    """
    position = first_position(site, starts, asking)
    for rule in rules:
        for number, row in enumerate(rule.states()):
            for request in requests_at(asking, 0):
                if request not in row or not _are_ends(site, starts, row[request]):
                    raise Unfit(number)
    return position, 0


def rule_step(site, asking, states, post, request):
    """(move, post behind it) of the step of a rule with a request that may be made; None for the post if it is bad."""
    position, state = post
    (walkers, _), _, _ = position
    later, ends = states[state][request]
    move = tuple([None if left else end for (_, left), end in zip(walkers, ends)])
    if move not in moves_of(site, walkers):
        return move, None
    after = position_behind(site, asking, position, request, move)
    return move, None if after is None else (after, later)


def _are_states(value):
    """Whether any value is a list of states."""
    if not isinstance(value, list) or not 1 <= len(value) <= MOST_STATES:
        return False
    if not all([isinstance(row, dict) for row in value]):
        return False
    if not all([_are_keys(row, value[0]) for row in value]):
        return False
    pairs = [pair for row in value for pair in row.values()]
    if not all([is_pair(pair) and _is_state(pair[0], len(value)) and _are_names(pair[1]) for pair in pairs]):
        return False
    many = len(pairs[0][1])
    return all([len(ends) == many for _, ends in pairs])


def _are_keys(row, first):
    """Whether a dict has None and any names as its keys, the same ones as a first dict."""
    return (
        None in row
        and len(row) == len(first)
        and all([(key is None or _is_a_name(key)) and key in first for key in row])
    )


def _is_state(value, many):
    return is_whole(value) and 0 <= value < many


def _are_names(value):
    """Whether any value is a tuple of a name for each of one or two walkers."""
    if not isinstance(value, tuple) or not 1 <= len(value) <= MOST_WALKERS:
        return False
    return all([_is_a_name(name) for name in value])


def _is_a_name(value):
    return isinstance(value, str) and is_name(value)


def _copied(row):
    return {key: row[key] for key in row}


def _are_ends(site, starts, pair):
    """Whether a pair of a rule has ends for the walkers that are places of the site."""
    _, ends = pair
    return len(ends) == len(starts) and all([is_place(site, end) for end in ends])


def _check_row(asking, value):
    """Raises BadRequest(index) with the first thing of any value that may not be requested there."""
    if not isinstance(value, list):
        raise BadRequest(0)
    rest = 0
    for index, request in enumerate(value):
        if request not in requests_at(asking, rest):
            raise BadRequest(index)
        rest = rest_behind(asking, rest, request)


def _shortest_list(site, starts, asking, rules):
    """A shortest allowed list that all rules but the first one keep, and the first one does not."""
    post = first_post(site, starts, asking, rules)
    tables = [rule.states() for rule in rules]
    beginning = tuple([post for _ in rules])
    graph = explored(beginning, lambda posts: _steps_from(site, asking, tables, posts), MOST_POSTS)
    for number, posts in enumerate(graph.nodes):
        for request in _requests_from(asking, posts):
            after = _posts_behind(site, asking, tables, posts, request)
            if after[0] is None and None not in after[1:]:
                return way_to(graph.arrows, number) + [request]
    return None


def _requests_from(asking, posts):
    """The requests that may be made: the same ones for all rules, since no rule has a say in it."""
    (_, _, rest), _ = posts[0]
    return requests_at(asking, rest)


def _posts_behind(site, asking, tables, posts, request):
    """For each rule the post behind its step, None if the step is bad."""
    steps = [rule_step(site, asking, states, post, request) for states, post in zip(tables, posts)]
    return [after for _, after in steps]


def _steps_from(site, asking, tables, posts):
    """All requests with the posts behind the steps, None in place of those with a bad one."""
    steps = []
    for request in _requests_from(asking, posts):
        after = _posts_behind(site, asking, tables, posts, request)
        steps.append((request, None if None in after else tuple(after)))
    return steps
