"""Points 2, 3, 14, 19, 20, 23, 28 and 30, with duewalk/costs.py."""

import copy
import math
import random
import unittest
from fractions import Fraction

from anyvalues import any_values, deep_key, nested
from duewalk.costs import are_rule_weights, rule_size, rule_toil, rule_weights
from duewalk.errors import BadStarts, NotKept, TooLarge, Unfit, UnknownPlace
from duewalk.requests import Asking
from duewalk.rules import Rule, broken_list
from duewalk.sites import Site
from duewalk.stocked import least_size_asked
from duewalk.toil import least_toil
from duewalk.walks import start_of
from games import few_positions, least_share, position_graph, rule_graph, some_rule, tame_rule, tuples_of
from oracles import CASES, FAR_PAIR, LINE, ONE, PAIR, TIGHT_LINE, WIDE_LINE, raised
from test_keeping import kinds_changed
from test_requests import HUGE, NONE_ASKED
from test_rules import TO_AND_FRO, same_for_all
from test_stocked import NAMED, RESTED, SMALL_ENOUGH, TOO_LARGE
from test_stores import STAYING

# It rests at a for three steps, if nothing is requested then or as it left b.
RESTING_RULE = [{None: (1, ("b",)), "b": (1, ("b",))}, {None: (2, ("a",)), "b": (5, ("a",))}, {None: (3, ("a",)), "b": (1, ("b",))},
                {None: (4, ("a",)), "b": (1, ("b",))}, {None: (0, ("a",)), "b": (1, ("b",))}, {None: (1, ("b",)), "b": (1, ("b",))}]


def some_kept(seed, cases, tries, most_posts=250):
    """Tuples (site, starts, asking, rule, graph of its posts) with rules by chance that keep all."""
    chance = random.Random(seed)
    found = []
    for site, starts, asking, _ in cases:
        for _ in range(tries):
            rule = chance.choice((some_rule, tame_rule, tame_rule))(chance, site, starts, asking)
            if raised(broken_list, site, starts, asking, rule) is None and broken_list(site, starts, asking, rule) is None:
                graph = rule_graph(site, starts, asking, [rule])
                if len(graph) <= most_posts:
                    found.append((site, starts, asking, rule, graph))
    return found


def posts_of(graph):
    return [posts[0] for posts in graph]


def arrows_of(graph):
    """Triples (post, post behind a step, toil) for each request that may be made."""
    return [(post, after, toil) for (post,), row in graph.items() for [(toil, after)] in row.values()]


def toil_by_point_28(graph):
    """The greatest share of toil of all loops of the posts."""
    return -least_share([(start, end, -toil) for start, end, toil in arrows_of(graph)])


def size_by_point_28(graph):
    """The least size with which no step is bad, found by playing with each."""
    beginning = posts_of(graph)[0]
    for size in range(13):
        reached, waiting, bad = set(), [(beginning, size)], False
        while waiting:
            post, units = waiting.pop()
            if (post, units) not in reached:
                reached.add((post, units))
                for [(toil, after)] in graph[post,].values():
                    bad = bad or toil > units
                    waiting.append((after, units - toil if toil else min(size, units + 1)))
            if bad:
                break
        if not bad:
            return size
    return None


KEPT = some_kept(130, NAMED + RESTED, 12)
CALLS = [rule_toil, rule_weights, rule_size]


class Costs(unittest.TestCase):
    def all_raise(self, error, site, starts, asking, rule):
        for call in CALLS:
            self.assertEqual(error, raised(call, site, starts, asking, rule), call.__name__)
        for value in (None, {}, nested({}, 49)):
            self.assertEqual(error, raised(are_rule_weights, site, starts, asking, rule, (1, 2), value))

    def judge(self, site, starts, asking, rule, graph):
        top, bottom = told = rule_toil(site, starts, asking, rule)
        self.assertEqual([tuple, int, int], [type(told), type(top), type(bottom)])
        self.assertTrue(top >= 0 and bottom >= 1 and math.gcd(top, bottom) == 1)
        self.assertEqual(toil_by_point_28(graph), Fraction(top, bottom))
        weights = rule_weights(site, starts, asking, rule)
        self.assertEqual(set(posts_of(graph)), set(weights))
        for start, end, toil in arrows_of(graph):
            self.assertGreaterEqual(top - bottom * toil + weights[start] - weights[end], 0)
        self.assertTrue(all(type(weight) is int and abs(weight) < 10 ** 100 for weight in weights.values()))
        self.assertIs(True, are_rule_weights(site, starts, asking, rule, (top, bottom), weights))
        size = rule_size(site, starts, asking, rule)
        self.assertEqual(size_by_point_28(graph), size)
        return (top, bottom), size

    def test_small_ones(self):
        still = Rule([{None: (0, ("a",)), "a": (0, ("a",))}])
        self.assertEqual((0, 1), rule_toil(ONE, ["a"], NONE_ASKED, still))
        self.assertEqual(0, rule_size(rule=still, asking=Asking(["a"], 1, 1), starts=["a"], site=ONE))
        self.assertEqual({((start_of(ONE, ["a"]), None, 0), 0)}, set(rule_weights(asking=NONE_ASKED, rule=still, site=ONE, starts=["a"])))
        walking = Rule(TO_AND_FRO)
        for asking in (NONE_ASKED, Asking(["c"], 4, 5)):
            self.assertEqual((1, 1), rule_toil(LINE, ["a"], asking, walking))
            self.assertIsNone(rule_size(LINE, ["a"], asking, walking))
        two = Rule([{None: (1, ("b", "a"))}, {None: (0, ("a", "b"))}])
        self.assertEqual((2, 1), rule_toil(PAIR, ["a", "b"], NONE_ASKED, two))
        far = Rule([{None: (0, ("b", "a"))}])
        self.assertEqual([(NotKept,)] * 3, [raised(call, FAR_PAIR, ["a", "b"], NONE_ASKED, far) for call in CALLS])

    def test_rest_between(self):
        # There and back, and three steps of rest; with each request there and back at once.
        rule = Rule(RESTING_RULE)
        site = STAYING
        self.assertEqual((2, 5), rule_toil(site, ["a"], NONE_ASKED, rule))
        self.assertEqual(2, rule_size(site, ["a"], NONE_ASKED, rule))
        told = []
        for pause in (2, 3, 4, 5, 6):
            asking = Asking(["b"], 2, pause)
            graph = rule_graph(site, ["a"], asking, [rule])
            self.assertIsNone(broken_list(site, ["a"], asking, rule))
            told.append(self.judge(site, ["a"], asking, rule, graph))
        self.assertEqual([((1, 1), None), ((2, 3), None), ((3, 5), None), ((4, 7), None), ((4, 7), None)], told)
        self.all_raise((NotKept,), site, ["a"], Asking(["b"], 1, 6), rule)

    def test_sizes_that_just_will_do(self):
        # Two walkers change places by ways of three steps, once, twice, or when it is requested.
        site = Site.parse("a 2 stay -> b 3\nb 2 stay -> a 3")
        there, back = ("b", "a"), ("a", "b")
        once = Rule([{None: (1, there)}, {None: (1, there)}])
        twice = Rule([{None: (1, there)}, {None: (2, there)}, {None: (3, there)}, {None: (4, back)}, {None: (4, back)}])
        for rule, size in ((once, 6), (twice, 12)):
            self.assertEqual(size, rule_size(site, ["a", "b"], NONE_ASKED, rule))
            self.judge(site, ["a", "b"], NONE_ASKED, rule, rule_graph(site, ["a", "b"], NONE_ASKED, [rule]))
        called = [{None: (0, back), "a": (1, there)}] + [{None: (at, there), "a": (at, there)} for at in (2, 3)]
        called += [{None: (3, there), "a": (4, back)}] + [{None: (at, back), "a": (at, back)} for at in (5, 0)]
        told = []
        for pause in range(3, 13):
            case = (site, ["a", "b"], Asking(["a"], 3, pause), Rule(called))
            self.assertIsNone(broken_list(*case))
            told.append(self.judge(*case, rule_graph(*case[:3], [Rule(called)]))[1])
        self.assertEqual([None] * 6 + [6] * 4, told)

    def test_by_the_words_of_point_28(self):
        told = [self.judge(*case) for case in KEPT]
        self.assertGreater(len(KEPT), 60)
        self.assertGreater(len({share for share, _ in told}), 6)
        self.assertGreater(len({size for _, size in told}), 4)
        self.assertIn(None, {size for _, size in told})
        self.assertIn(0, {size for _, size in told})
        self.assertTrue(any(top > bottom for (top, bottom), _ in told))
        self.assertTrue(any(len(case[3].states()) == 6 for case in KEPT))
        # Such as have loops with less toil, too.
        self.assertTrue(any(toil_by_point_28(case[4]) != least_share(arrows_of(case[4])) for case in KEPT))

    def test_facts_of_point_30(self):
        for site, starts, asking, rule, _ in KEPT:
            self.assertGreaterEqual(Fraction(*rule_toil(site, starts, asking, rule)), Fraction(*least_toil(site, starts)))
            least, size = least_size_asked(site, starts, asking), rule_size(site, starts, asking, rule)
            if size is not None:
                self.assertLessEqual(least, size)

    def test_large_ones(self):
        # As many positions as may be, of a rule of six states.
        for text, starts, places, answer, pause, positions, tuples in SMALL_ENOUGH:
            site, asking = Site.parse(text), Asking(places, answer, pause)
            graph = position_graph(site, starts, asking)
            self.assertEqual((positions, tuples), (len(graph), tuples_of(site, graph)))
            rule = Rule([{key: (at, tuple(starts)) for key in [None] + places} for at in range(6)])
            expected = None if broken_list(site, starts, asking, rule) is None else (NotKept,)
            self.all_raise(expected, site, starts, asking, rule)

    def test_errors(self):
        strange = Asking(["b", "x", "y"], 1, 1)
        unfit = Rule([{None: (0, ("x", "y"))}])
        lost = Rule([same_for_all(("a",), 0, "abc")])
        for starts in any_values() + [[], ["z"], ("a",), ["a", "b", "c"], ["a", 0]]:
            self.all_raise((BadStarts,), HUGE, starts, strange, unfit)
            self.all_raise((BadStarts,), LINE, starts, NONE_ASKED, lost)
        self.all_raise((UnknownPlace, "x"), HUGE, ["a", "f"], strange, unfit)
        self.all_raise((UnknownPlace, "x"), LINE, ["a"], strange, unfit)
        self.all_raise((TooLarge,), HUGE, ["a", "f"], NONE_ASKED, unfit)
        for text, starts, places, answer, pause, positions, tuples in TOO_LARGE:
            site, asking = Site.parse(text), Asking(places, answer, pause)
            self.all_raise((TooLarge,), site, starts, asking, unfit)
            self.all_raise((TooLarge,), site, starts, asking, Rule([{key: (0, tuple(starts)) for key in [None] + places}]))
        self.all_raise((Unfit, 0), LINE, ["a"], NONE_ASKED, unfit)
        self.all_raise((Unfit, 0), LINE, ["a"], Asking(["b"], 9, 9), Rule(TO_AND_FRO))
        self.all_raise((Unfit, 1), LINE, ["a"], NONE_ASKED, Rule([{None: (0, ("c",))}, {None: (0, ("z",))}, {None: (0, ("z",))}]))
        self.all_raise((Unfit, 5), PAIR, ["a"], NONE_ASKED, Rule([{None: (0, ("a",))}] * 5 + [{None: (0, ("c",))}]))
        self.all_raise((NotKept,), LINE, ["a"], Asking(["c"], 9, 9), lost)
        self.all_raise((NotKept,), PAIR, ["a"], NONE_ASKED, Rule([{None: (0, ("a",))}]))
        self.all_raise((NotKept,), TIGHT_LINE, ["a"], Asking(["c"], 9, 9), Rule(TO_AND_FRO))
        self.all_raise((NotKept,), WIDE_LINE, ["a"], Asking(["c"], 3, 3), Rule(TO_AND_FRO))
        self.all_raise(None, LINE, ["a"], Asking(["c"], 4, 4), Rule(TO_AND_FRO))

    def test_not_kept_just_if_some_list_is_broken(self):
        chance = random.Random(131)
        told = []
        for site, starts, asking, _ in NAMED[::2] + RESTED[::2]:
            rule = tame_rule(chance, site, starts, asking)
            kept = broken_list(site, starts, asking, rule) is None
            self.all_raise(None if kept else (NotKept,), site, starts, asking, rule)
            told.append(kept)
        self.assertGreater(min(sum(told), len(told) - sum(told)), 5)

    def test_results_are_new(self):
        for site, starts, asking, rule, _ in KEPT[::6]:
            states = rule.states()
            first = [call(site, starts, asking, rule) for call in CALLS]
            kept, handed_in = copy.deepcopy(first), list(starts)
            first[1].clear()
            self.assertEqual(kept, [call(site, starts, asking, rule) for call in CALLS])
            same = Asking(list(asking.places), asking.answer, asking.pause)
            self.assertEqual(kept, [call(Site.parse(str(site)), list(starts), same, Rule(states)) for call in CALLS])
            self.assertEqual((handed_in, states), (starts, rule.states()))


class Weights(unittest.TestCase):
    def fits(self, graph, share, weights):
        return all(share[0] - share[1] * toil + weights[start] - weights[end] >= 0 for start, end, toil in arrows_of(graph))

    def test_weights_by_chance(self):
        chance = random.Random(132)
        told = []
        for site, starts, asking, rule, graph in KEPT:
            share = rule_toil(site, starts, asking, rule)
            weights = rule_weights(site, starts, asking, rule)
            for _ in range(6):
                other = dict(weights)
                for post in chance.sample(posts_of(graph), chance.randint(1, min(3, len(graph)))):
                    other[post] += chance.choice((-3, -1, 1, 2, 10 ** 30))
                for fraction in (share, (share[0] + share[1], share[1]), (3, 1), (0, 1)):
                    told.append(self.fits(graph, fraction, other))
                    self.assertIs(told[-1], are_rule_weights(site, starts, asking, rule, fraction, other))
        self.assertGreater(min(sum(told), len(told) - sum(told)), 50)

    def test_none_for_less_than_the_toil_of_the_rule(self):
        for site, starts, asking, rule, graph in KEPT:
            top, bottom = rule_toil(site, starts, asking, rule)
            less = Fraction(top, bottom) - Fraction(1, 1000)
            if less >= 0:
                share = (less.numerator, less.denominator)
                weights = rule_weights(site, starts, asking, rule)
                scaled = {post: weight * share[1] // bottom for post, weight in weights.items()}
                self.assertIs(False, are_rule_weights(site, starts, asking, rule, share, scaled))
        # Where each step has as much toil as any, nothing is a weight for what is just less.
        rule = Rule(TO_AND_FRO)
        for number in (0, 5, -10 ** 60):
            weights = {post: number for post in rule_weights(LINE, ["a"], NONE_ASKED, rule)}
            self.assertIs(True, are_rule_weights(LINE, ["a"], NONE_ASKED, rule, (1, 1), weights))
            self.assertIs(True, are_rule_weights(weights=weights, share=(7, 5), rule=rule, asking=NONE_ASKED, starts=["a"], site=LINE))
            self.assertIs(False, are_rule_weights(LINE, ["a"], NONE_ASKED, rule, (99, 100), weights))

    def test_keys(self):
        for site, starts, asking, rule, graph in KEPT[::8]:
            case = (site, starts, asking, rule, (2, 1))
            weights = {post: 0 for post in posts_of(graph)}
            self.assertIs(True, are_rule_weights(*case, weights))
            # Keys are compared by ==.
            self.assertIs(True, are_rule_weights(*case, {kinds_changed(post): 0 for post in weights}))
            for post in list(weights)[::len(weights) // 4 + 1]:
                without = {key: 0 for key in weights if key != post}
                self.assertIs(False, are_rule_weights(*case, without))
                self.assertIs(True, are_rule_weights(*case, {**without, kinds_changed(post): 0}))
                for key in (None, 0, "a", (), post[0], post + (0,), (post[0], 6), (post[0], -1), (post[0], str(post[1])), deep_key()):
                    self.assertIs(False, are_rule_weights(*case, {**without, key: 0}))
                    self.assertIs(False, are_rule_weights(*case, {**weights, key: 0}))

    def test_values(self):
        rule = Rule(TO_AND_FRO)
        case = (LINE, ["a"], NONE_ASKED, rule, (2, 1))
        weights = {post: 0 for post in rule_weights(*case[:4])}
        graph = rule_graph(*case[:3], [rule])
        for post in weights:
            for value in any_values():
                right = type(value) is int and self.fits(graph, (2, 1), {**weights, post: value})
                self.assertIs(right, are_rule_weights(*case, {**weights, post: value}), repr(value))
        for value in any_values() + [list(weights.items()), list(weights), [weights], (weights,), {}]:
            before = copy.deepcopy(value)
            self.assertIs(False, are_rule_weights(*case, value))
            self.assertEqual(before, value)


if __name__ == "__main__":
    unittest.main()
