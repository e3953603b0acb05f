"""Points 2, 3, 14, 15 and 22, with duewalk/late.py."""

import copy
import math
import random
import unittest
from fractions import Fraction

from anyvalues import any_values, nested
from duewalk.errors import BadStarts, TooLarge
from duewalk.keeping import longest_time
from duewalk.late import are_weights, least_share, share_loop, share_weights
from duewalk.sites import Site
from duewalk.walks import moves_from, start_of
from oracles import (
    CASES, FAR_PAIR, LINE, NO_WAY_TO, ONE, PAIR, TIGHT_LINE, WIDE_LINE, late_graph, late_places, least_share_of, raised,
    size_of, some_cases)
from test_keeping import kinds_changed

RANDOM = some_cases(40, 40, 4, 200)
# (text, starts, standings by point 14, moves from them)
SMALL_ENOUGH = [
    ("a 6 -> e 1\nb 4 -> a 3 d 3 e 1\nc 4 stay\nd 6 -> a 1 b 3\ne 8 -> d 1", ["e", "e"], 600, 1037),
    ("a 6 -> c 1 d 1\nb 4 stay -> c 1 d 3\nc 1 -> a 3 b 1 d 1\nd 1 -> a 1 b 1", ["b", "b"], 600, 2112),
    ("a 8 stay -> b 1 c 1\nb 9 stay -> a 1 c 1\nc 7 stay -> b 1\nd 6 -> b 1", ["a", "c"], 584, 4000),
]
TOO_LARGE = [
    ("a 9 -> e 1\nb 2 -> a 2 c 2 d 1 e 1\nc 8 stay -> a 1 b 2\nd 4 stay -> a 1 e 1\ne 2 -> a 1 b 1 c 2", ["e"], 601, 1373),
    ("a 4 stay -> c 2\nb 9 stay\nc 3 stay -> a 3 b 2", ["c", "a"], 601, 1453),
    ("a 8 stay -> b 1 c 1\nb 5 stay -> a 1 c 1\nc 8 -> b 1\nd 7 -> b 3 c 2", ["b", "b"], 593, 4001),
]
WITH_STARTS = [least_share, share_loop, share_weights]


def fits(site, graph, share, weights):
    """Whether a dict from the standings of a graph to integers are weights by point 15."""
    top, bottom = share
    return all(bottom * late_places(site, after) - top + weights[node] - weights[after] >= 0
               for node, steps in graph.items() for after in steps.values())


class Late(unittest.TestCase):
    def judge(self, site, starts, share, graph):
        self.assertEqual([tuple, int, int], [type(share), type(share[0]), type(share[1])])
        self.assertEqual(share, (Fraction(*share).numerator, Fraction(*share).denominator))
        self.judge_loop(site, share, graph, start_of(site, starts), share_loop(site, starts))
        weights = share_weights(site, starts)
        self.assertEqual((dict, set(graph)), (type(weights), set(weights)))
        self.assertTrue(all(type(weight) is int and abs(weight) < 10 ** 100 for weight in weights.values()))
        self.assertTrue(fits(site, graph, share, weights))
        self.assertIs(True, are_weights(site, starts, share, weights))

    def judge_loop(self, site, share, graph, beginning, pair):
        self.assertEqual([tuple, list, list], [type(pair), type(pair[0]), type(pair[1])])
        run, loop = pair
        node = beginning
        for move in run:
            node = graph[node][move]
        entry, lateness = node, 0
        for move in loop:
            node = graph[node][move]
            lateness += late_places(site, node)
        self.assertEqual(entry, node)
        self.assertEqual(Fraction(*share), Fraction(lateness, len(loop)))

    def all_raise(self, error, site, starts):
        for call in WITH_STARTS:
            self.assertEqual(error, raised(call, site, starts), (call.__name__, starts))
        for value in ({}, None, [1], {1: 2}, nested({}, 49)):
            self.assertEqual(error, raised(are_weights, site, starts, (1, 2), value), starts)


class Shares(Late):
    def test_example_of_the_document(self):
        self.assertEqual((1, 4), least_share(TIGHT_LINE, ["a"]))

    def test_small_ones(self):
        self.assertEqual((0, 1), least_share(ONE, ["a"]))
        self.assertEqual((0, 1), least_share(LINE, ["c"]))
        self.assertEqual((0, 1), least_share(PAIR, ["a", "b"]))
        # One of two places is late behind each move.
        self.assertEqual((1, 1), least_share(site=PAIR, starts=["a"]))
        self.assertEqual((1, 1), least_share(PAIR, ["b", "b"]))
        self.assertEqual((1, 1), least_share(NO_WAY_TO, ["b"]))
        self.assertEqual((0, 1), least_share(FAR_PAIR, ["a"]))
        # More than one place is late behind each move.
        site = Site.parse("a 0 stay\nb 0 stay\nc 9 stay\nd 3 stay\ne 0 stay\nf 0 stay")
        self.assertEqual((5, 1), least_share(site, ["a"]))
        self.assertEqual((4, 1), least_share(site, ["a", "f"]))
        # In lowest terms: two late steps of six.
        site = Site.parse("a 4 -> b 3\nb 4 -> a 3")
        self.assertEqual((1, 3), least_share(site, ["a"]))
        self.assertEqual(6, len(share_loop(site, ["b"])[1]))
        self.assertEqual((17, 6), least_share(Site.parse("a 0 -> b 3\nb 9 -> a 3\nc 1 stay\nd 0 -> a 1"), ["a"]))

    def test_where_no_walker_may_rest(self):
        site = Site.parse("a 1 -> b 2\nb 1 -> a 1")
        graph = late_graph(site, ["a"])
        self.assertEqual((2, 3), least_share(site, ["a"]))
        self.judge(site, ["a"], (2, 3), graph)

    def test_by_karps_rule(self):
        shares = set()
        for site, starts in CASES + RANDOM:
            graph = late_graph(site, starts)
            share = least_share(site, starts)
            self.assertEqual(least_share_of(site, graph, start_of(site, starts)), Fraction(*share))
            self.judge(site, starts, share, graph)
            shares.add(share)
        self.assertGreater(len(shares), 8)
        self.assertTrue(any(math.gcd(*share) == 1 and share[0] > 1 for share in shares), shares)

    def test_weights_show_larger_ones(self):
        for site, starts in some_cases(41, 15, 5, 1500):
            self.judge(site, starts, least_share(site, starts), late_graph(site, starts))

    def test_one_walker_is_late_now_and_then_just_if_the_site_is_not_kept(self):
        told = set()
        for site, starts in CASES + RANDOM:
            kept = longest_time(site, starts) is None
            none = least_share(site, starts) == (0, 1)
            if len(starts) == 1:
                self.assertIs(kept, none)
            elif kept:
                self.assertTrue(none)
            told.add((len(starts), kept, none))
        self.assertLessEqual({(1, True, True), (1, False, False), (2, True, True), (2, False, False)}, told)

    def test_two_walkers_may_be_late_at_first_only(self):
        site = Site.parse("a 0 -> b 1\nb 9 stay -> a 1")
        self.assertEqual(0, longest_time(site, ["a", "a"]))
        self.assertEqual((0, 1), least_share(site, ["a", "a"]))
        self.judge(site, ["a", "a"], (0, 1), late_graph(site, ["a", "a"]))
        run, _ = share_loop(site, ["a", "a"])
        self.assertGreater(len(run), 0)

    def test_where_one_begins_does_not_matter_for_one_walker(self):
        for site in (LINE, TIGHT_LINE, PAIR, FAR_PAIR, WIDE_LINE):
            self.assertEqual(1, len({least_share(site, [name]) for name in site.names}))

    def test_no_starts(self):
        for value in any_values() + [["z"], ("a",), "a", [], ["a", "z"]]:
            self.all_raise((BadStarts,), LINE, value)
            self.all_raise((BadStarts,), Site.parse(TOO_LARGE[0][0]), value)

    def test_sizes(self):
        for text, starts, standings, moves in TOO_LARGE:
            site = Site.parse(text)
            self.assertEqual((standings, moves), size_of(site, starts, late_graph(site, starts)))
            self.all_raise((TooLarge,), site, starts)
        for text, starts, standings, moves in SMALL_ENOUGH:
            site = Site.parse(text)
            graph = late_graph(site, starts)
            self.assertEqual((standings, moves), size_of(site, starts, graph))
            self.judge(site, starts, least_share(site, starts), graph)
        site = Site.parse("\n".join(
            f"{name} 9 stay -> " + " ".join(f"{end} 3" for end in "abcdef" if end != name) for name in "abcdef"))
        self.all_raise((TooLarge,), site, ["a", "f"])

    def test_results_are_new(self):
        for site, starts in ((TIGHT_LINE, ["a"]), (PAIR, ["b", "b"])):
            graph = late_graph(site, starts)
            share = least_share(site, starts)
            run, loop = share_loop(site, starts)
            run.append(7)
            loop.clear()
            share_weights(site, starts).clear()
            self.judge(site, starts, share, graph)
            self.assertEqual(str(site), str(Site.parse(str(site))))


class Weights(Late):
    def refuses(self, site, starts, share, weights):
        before = copy.deepcopy(weights)
        self.assertIs(False, are_weights(site, starts, share, weights), repr(weights))
        self.assertEqual(before, weights)

    def test_other_right_ones(self):
        for site, starts in ((TIGHT_LINE, ["a"]), (PAIR, ["a"]), (LINE, ["a", "c"])):
            share = least_share(site, starts)
            weights = share_weights(site, starts)
            for more in (1, -7, 10 ** 200):
                self.assertIs(True, are_weights(site, starts, share, {node: worth + more for node, worth in weights.items()}))
            self.assertIs(True, are_weights(site, starts, share, dict(reversed(list(weights.items())))))
            nothing = {node: 0 for node in weights}
            self.assertIs(True, are_weights(site=site, starts=starts, share=(0, 1), weights=nothing))
            self.assertIs(True, are_weights(site, starts, (0, 5), nothing))
            self.assertIs(True, are_weights(site, starts, (-3, 2), nothing))

    def test_none_for_more_than_the_least_share(self):
        for site, starts in CASES + RANDOM[:20]:
            top, bottom = least_share(site, starts)
            weights = share_weights(site, starts)
            greater = Fraction(top, bottom) + Fraction(1, 1000)
            share = (greater.numerator, greater.denominator)
            self.refuses(site, starts, share, {node: worth * 1000 for node, worth in weights.items()})
            self.refuses(site, starts, share, {node: worth * share[1] // bottom for node, worth in weights.items()})

    def test_weights_by_chance(self):
        chance = random.Random(44)
        told = []
        for site, starts in CASES + RANDOM:
            graph = late_graph(site, starts)
            share = least_share(site, starts)
            weights = share_weights(site, starts)
            for _ in range(12):
                other = dict(weights)
                for node in chance.sample(list(graph), chance.randint(1, min(3, len(graph)))):
                    other[node] += chance.choice((-3, -1, 1, 2, 10 ** 30))
                for fraction in (share, (share[0], share[1] + 1), (share[0] * 2 - 1, share[1] * 2)):
                    told.append(fits(site, graph, fraction, other))
                    self.assertIs(told[-1], are_weights(site, starts, fraction, other))
        self.assertGreater(min(sum(told), len(told) - sum(told)), 50)

    def test_each_move_counts(self):
        # Just one move is too cheap, wherever it is.
        for site, starts in ((TIGHT_LINE, ["a"]), (PAIR, ["a", "a"])):
            graph = late_graph(site, starts)
            share = least_share(site, starts)
            weights = share_weights(site, starts)
            for node in graph:
                for more in (1, -1, 5, -5):
                    other = {**weights, node: weights[node] + more}
                    self.assertIs(fits(site, graph, share, other), are_weights(site, starts, share, other))

    def test_wrong_keys(self):
        for site, starts in ((TIGHT_LINE, ["a"]), (PAIR, ["a", "b"]), (FAR_PAIR, ["b"])):
            weights = {node: 0 for node in late_graph(site, starts)}
            self.assertIs(True, are_weights(site, starts, (0, 1), weights))
            for node in weights:
                without = {key: worth for key, worth in weights.items() if key != node}
                self.refuses(site, starts, (0, 1), without)
                counted_on = (node[0], tuple(wait + (wait > limit) for wait, limit in zip(node[1], site.limits)))
                others = [None, 0, "a", (), node[0], (node[0], node[1], ()), (node[0], node[1] + (0,)), kinds_changed(node),
                          (node[0], tuple(wait + 20 for wait in node[1])), (node[0] * 2, node[1])]
                for other in others + [counted_on] * (counted_on != node):
                    if other not in without:
                        self.refuses(site, starts, (0, 1), {**without, other: 0})
            for other in (None, 0, "a", (), ((("z", 0),), (0, 0, 0)), ((("a", 0),), (0, 9, 9)), 10 ** 9):
                self.refuses(site, starts, (0, 1), {**weights, other: 0})

    def test_wrong_weights(self):
        for site, starts in ((TIGHT_LINE, ["a"]), (ONE, ["a"])):
            weights = {node: 0 for node in late_graph(site, starts)}
            for node in weights:
                for value in any_values():
                    if type(value) is not int:
                        self.refuses(site, starts, (0, 1), {**weights, node: value})
                self.refuses(site, starts, (0, 1), {**weights, node: False})

    def test_wrong_kinds(self):
        weights = share_weights(TIGHT_LINE, ["a"])
        for value in any_values() + [list(weights.items()), list(weights), [weights], (weights,), {"k": weights}, {}]:
            self.refuses(TIGHT_LINE, ["a"], (1, 4), value)

    def test_ordinary_move_lists(self):
        # Point 14 lets bad moves be made, so that each move of each standing counts.
        graph = late_graph(PAIR, ["a"])
        self.assertEqual({1}, {len(moves_from(PAIR, node)) for node in graph})
        self.assertEqual(3, len(graph))


if __name__ == "__main__":
    unittest.main()
