"""Points 2, 3, 14, 23, 24 and 30, with duewalk/toil.py."""

import copy
import math
import random
import unittest
from fractions import Fraction

from anyvalues import any_values, deep_key, nested
from duewalk.errors import BadMove, BadStanding, BadStarts, NotKept, TooLarge
from duewalk.keeping import is_plan, kept_plan, longest_time
from duewalk.sites import Site, turned, with_limits
from duewalk.toil import (
    are_toil_weights, is_restful, least_toil, restful_plan, run_toil, toil_of, toil_weights)
from duewalk.walks import followed, has_breach, moves_from, start_of, stepped
from games import least_share, toil_by_point_23
from oracles import (
    CASES, FAR_PAIR, LINE, NO_WAY_TO, ONE, PAIR, RING, TIGHT_LINE, calm_graph, is_kept, raised, size_of, some_cases, some_site)
from test_keeping import SMALL_ENOUGH, TOO_LARGE, kinds_changed

STAYING = Site.parse("a 9 stay -> b 1\nb 9 -> a 1")
LONG = Site.parse("a 9 stay -> b 3\nb 9 stay -> a 2")
HUGE = Site.parse("\n".join(
    f"{name} 9 stay -> " + " ".join(f"{end} 3" for end in "abcdef" if end != name) for name in "abcdef"))
NAMED = CASES + [(STAYING, ["a"]), (STAYING, ["b"]), (STAYING, ["a", "b"]), (LONG, ["a"]), (LONG, ["b", "b"])]
RANDOM = some_cases(100, 80)
KEPT = [(site, starts) for site, starts in NAMED + RANDOM if is_kept(site, starts)]


def arrows_of(graph):
    return [(node, after, toil_by_point_23(node, move)) for node, steps in graph.items() for move, after in steps.items()]


def toil_of_run(site, standing, moves):
    total = 0
    for move in moves:
        total += toil_by_point_23(standing, move)
        standing = stepped(site, standing, move)
    return total


class Moves(unittest.TestCase):
    def test_each_kind_of_move(self):
        site = Site.parse("a 9 stay -> b 3\nb 9 stay -> a 1")
        at_a, near_b, at_b = ("a", 0), ("b", 1), ("b", 0)
        for walkers, waits, move, toil in (
            ((at_a,), (0, 5), ("a",), 0), ((at_a,), (0, 5), ("b",), 1), ((near_b,), (2, 5), (None,), 1), ((at_b,), (2, 0), ("b",), 0),
            ((at_b,), (2, 0), ("a",), 1), ((at_a, at_b), (0, 0), ("a", "b"), 0), ((at_a, at_b), (0, 0), ("b", "a"), 2),
            ((at_a, at_b), (0, 0), ("a", "a"), 1), ((at_a, at_a), (0, 20), ("b", "a"), 1), ((near_b, at_b), (4, 0), (None, "b"), 1),
            ((near_b, ("b", 2)), (4, 3), (None, None), 2), ((near_b, at_a), (0, 3), (None, "b"), 2),
        ):
            self.assertEqual(toil, toil_of(site, (walkers, waits), move))
            self.assertEqual(toil, toil_of(move=move, standing=(walkers, waits), site=site))

    def test_all_moves(self):
        for site, starts in NAMED + RANDOM[:20]:
            for standing in list(calm_graph(site, starts))[:30]:
                for move in moves_from(site, standing):
                    self.assertEqual(toil_by_point_23(standing, move), toil_of(site, standing, move))

    def test_wrong_ones(self):
        standing = start_of(LINE, ["a"])
        for value in any_values() + [((("a", False),), (0, 0, 0)), ((("a", 0),), (1, 0, 0)), list(standing), standing + (0,)]:
            self.assertEqual((BadStanding,), raised(toil_of, LINE, value, ("b",)))
            self.assertEqual((BadStanding,), raised(toil_of, LINE, value, None))
        for value in any_values() + [("a",), ("c",), ["b"], ("b", None), ("b", "b")]:
            self.assertEqual((BadMove, 0), raised(toil_of, LINE, standing, value))

    def test_lists(self):
        self.assertEqual(0, run_toil(LINE, ["a"], []))
        self.assertEqual(2, run_toil(STAYING, ["a"], [("a",), ("b",), ("a",)]))
        self.assertEqual(6, run_toil(run=[("b",), (None,), (None,), ("a",), (None,), (None,)], site=FAR_PAIR, starts=["a"]))
        self.assertEqual(4, run_toil(FAR_PAIR, ["a"], [("b",), (None,), (None,), ("a",)]))
        self.assertEqual(0, run_toil(ONE, ["a", "a"], [("a", "a")] * 500))
        # Bad moves have their toil, too.
        self.assertEqual(60, run_toil(PAIR, ["a", "a"], [("b", "b"), ("a", "a")] * 15))
        chance = random.Random(101)
        for site, starts in NAMED + RANDOM:
            run, standing = [], start_of(site, starts)
            for _ in range(chance.randint(1, 20)):
                run.append(chance.choice(moves_from(site, standing)))
                standing = followed(site, starts, run)[-1]
            handed_in = list(run)
            self.assertEqual(toil_of_run(site, start_of(site, starts), run), run_toil(site, starts, run))
            self.assertEqual(handed_in, run)

    def test_wrong_lists(self):
        for starts in any_values() + [[], ["z"], ("a",), ["a", "b", "c"]]:
            for run in ([], None, [("b",)], [("z",)]):
                self.assertEqual((BadStarts,), raised(run_toil, LINE, starts, run))
        for value in any_values() + [(("b",),), "b", {0: ("b",)}]:
            if value != []:
                self.assertEqual((BadMove, 0), raised(run_toil, LINE, ["a"], value))
        for value in any_values() + [("b",), ["a"], (None,)]:
            self.assertEqual((BadMove, 1), raised(run_toil, LINE, ["a"], [("b",), value, 7]))
            self.assertEqual((BadMove, 2), raised(run_toil, LINE, ["a"], [("b",), ("a",), (value,), value]))


def is_restful_by_point_24(site, starts, plan, share):
    """Whether a pair of lists of moves is a restful plan for the least toil."""
    run, loop = plan
    standings = [start_of(site, starts)] + followed(site, starts, run + loop)
    entry = standings[len(run)]
    return (entry == standings[-1] and not any(has_breach(site, one) for one in standings)
            and Fraction(toil_of_run(site, entry, loop), len(loop)) == share)


class Toil(unittest.TestCase):
    WITHOUT = [least_toil, restful_plan, toil_weights]

    def all_raise(self, error, site, starts):
        for call in self.WITHOUT:
            self.assertEqual(error, raised(call, site, starts), call.__name__)
        for value in (None, {}, ([], [("a",)]), nested({}, 49)):
            self.assertEqual(error, raised(is_restful, site, starts, value))
            self.assertEqual(error, raised(are_toil_weights, site, starts, (0, 1), value))

    def judge(self, site, starts, graph):
        top, bottom = told = least_toil(site, starts)
        self.assertEqual([tuple, int, int], [type(told), type(top), type(bottom)])
        self.assertTrue(bottom >= 1 and math.gcd(top, bottom) == 1)
        share = least_share(arrows_of(graph))
        self.assertEqual(share, Fraction(top, bottom))
        plan = restful_plan(site, starts)
        self.assertEqual([tuple, list, list], [type(plan), type(plan[0]), type(plan[1])])
        self.assertTrue(is_restful_by_point_24(site, starts, plan, share))
        self.assertIs(True, is_restful(site, starts, plan))
        self.assertIs(True, is_plan(site, starts, plan))
        weights = toil_weights(site, starts)
        self.assertEqual(set(graph), set(weights))
        for start, end, toil in arrows_of(graph):
            self.assertGreaterEqual(bottom * toil - top + weights[start] - weights[end], 0)
        self.assertTrue(all(type(weight) is int and abs(weight) < 10 ** 100 for weight in weights.values()))
        self.assertIs(True, are_toil_weights(site, starts, (top, bottom), weights))
        return top, bottom

    def test_small_ones(self):
        self.assertEqual((1, 5), least_toil(STAYING, ["a"]))
        self.assertEqual((0, 1), least_toil(site=ONE, starts=["a"]))
        self.assertEqual((0, 1), least_toil(Site.parse("a 9 stay\nb 0 stay"), ["a", "b"]))
        self.assertEqual(([], [("a",)]), restful_plan(starts=["a"], site=ONE))
        self.assertEqual({((("a", 0),), (0,)): 7}.keys(), toil_weights(starts=["a"], site=ONE).keys())
        # Where one may stay at no place.
        for site, starts in ((LINE, ["b"]), (LINE, ["a", "c"]), (PAIR, ["a", "b"]), (FAR_PAIR, ["a"])):
            self.assertEqual((len(starts), 1), least_toil(site, starts))
        # One of two walkers stays at b.
        self.assertEqual((0, 1), least_toil(Site.parse("a 9 stay -> b 1\nb 9 stay -> a 1"), ["a", "a"]))
        # There and back take five of fifteen steps.
        self.assertEqual((1, 3), least_toil(LONG, ["a"]))

    def test_by_karps_rule(self):
        shares = [self.judge(site, starts, calm_graph(site, starts)) for site, starts in KEPT]
        self.assertGreater(len(set(shares)), 8)
        self.assertIn((0, 1), shares)
        self.assertTrue(any(top > 1 < bottom for top, bottom in shares))
        self.assertTrue(any(top > bottom for top, bottom in shares))
        # Some of them have lost standings.
        self.assertTrue(any(not steps for site, starts in KEPT for steps in calm_graph(site, starts).values()))

    def test_as_large_as_may_be(self):
        kept = 0
        for text, starts, _, _ in SMALL_ENOUGH:
            site = Site.parse(text)
            if longest_time(site, starts) is None:
                kept += 1
                self.judge_large(site, starts)
            else:
                self.all_raise((NotKept,), site, starts)
        self.assertGreater(kept, 0)

    def judge_large(self, site, starts):
        graph = calm_graph(site, starts)
        top, bottom = least_toil(site, starts)
        weights = toil_weights(site, starts)
        self.assertTrue(all(bottom * toil - top + weights[start] - weights[end] >= 0 for start, end, toil in arrows_of(graph)))
        self.assertTrue(is_restful_by_point_24(site, starts, restful_plan(site, starts), Fraction(top, bottom)))

    def test_errors(self):
        for value in any_values() + [[], ["z"], ("a",), ["a", "b", "c"], ["a", 0]]:
            self.all_raise((BadStarts,), LINE, value)
            self.all_raise((BadStarts,), HUGE, value)
        for text, starts, standings, moves in TOO_LARGE:
            site = Site.parse(text)
            self.assertEqual((standings, moves), size_of(site, starts, calm_graph(site, starts)))
            self.all_raise((TooLarge,), site, starts)
        self.all_raise((TooLarge,), HUGE, ["a", "f"])
        self.all_raise((NotKept,), PAIR, ["a"])
        self.all_raise((NotKept,), TIGHT_LINE, ["b"])
        self.all_raise((NotKept,), NO_WAY_TO, ["a", "b"])
        # Too large, and not kept either: no way leads to g.
        self.all_raise((TooLarge,), Site.parse(str(HUGE).replace("f 9 stay -> a 3 b 3 c 3 d 3 e 3", "f 9 stay")), ["a", "b"])

    def test_results_are_new(self):
        for site, starts in KEPT[:20]:
            first = [call(site, starts) for call in self.WITHOUT]
            kept, handed_in = copy.deepcopy(first), list(starts)
            first[1][0].append(7)
            first[1][1].clear()
            first[2].clear()
            self.assertEqual(kept, [call(site, starts) for call in self.WITHOUT])
            self.assertEqual(kept, [call(Site.parse(str(site)), list(starts)) for call in self.WITHOUT])
            self.assertEqual(handed_in, starts)

    def test_facts_of_point_30(self):
        chance = random.Random(102)
        for site, starts in KEPT:
            top, bottom = least_toil(site, starts)
            if not any(site.stays):
                self.assertEqual((len(starts), 1), (top, bottom))
            wider = with_limits(site, [min(9, limit + chance.randint(0, 2)) for limit in site.limits])
            if raised(least_toil, wider, starts) is None:
                other_top, other_bottom = least_toil(wider, starts)
                self.assertLessEqual(other_top * bottom, top * other_bottom)
            if len(starts) == 1:
                self.assertEqual({(top, bottom)}, {least_toil(site, [name]) for name in site.names})
                if raised(turned, site) is None:
                    self.assertEqual((top, bottom), least_toil(turned(site), starts))


class Plans(unittest.TestCase):
    def test_other_plans(self):
        told = []
        chance = random.Random(103)
        for site, starts in KEPT:
            share = least_share(arrows_of(calm_graph(site, starts)))
            run, loop = restful_plan(site, starts)
            for plan in ((run + loop, loop), (run, loop * 3), (run + loop[:1], loop[1:] + loop[:1]), kept_plan(site, starts),
                         self.some_plan(chance, site, starts)):
                if plan is not None:
                    before = copy.deepcopy(plan)
                    right = is_restful_by_point_24(site, starts, plan, share)
                    self.assertIs(right, is_restful(site, starts, plan))
                    self.assertIs(True, is_plan(site, starts, plan))
                    self.assertEqual(before, plan)
                    told.append(right)
        self.assertGreater(min(sum(told), len(told) - sum(told)), 15)

    def some_plan(self, chance, site, starts):
        """A plan by chance, None if the walk that was tried ended."""
        graph = calm_graph(site, starts)
        moves, met, node = [], {}, start_of(site, starts)
        while node not in met:
            met[node] = len(moves)
            if not graph[node]:
                return None
            move = chance.choice(sorted(graph[node], key=str))
            moves.append(move)
            node = graph[node][move]
        return moves[:met[node]], moves[met[node]:]

    def test_no_plans(self):
        for site, starts in ((STAYING, ["a"]), (LINE, ["a"]), (LONG, ["b", "b"])):
            run, loop = restful_plan(site, starts)
            odd = any_values() + [
                (run, []), [run, loop], (run,), (run, loop, []), (tuple(run), loop), (run, tuple(loop)), (loop, None), (None, loop),
                (run, loop[:-1]), (run, loop + loop[:1]) if len(loop) > 1 else None, (run, loop + [None]), (run + [7], loop),
                ([nested(None, 45)], loop), (run, [nested(None, 45)]), {"run": run, "loop": loop}, loop, run,
            ]
            for value in odd:
                before = copy.deepcopy(value)
                self.assertIs(False, is_restful(site, starts, value), repr(value))
                self.assertEqual(before, value)
        # Back where it was, but not with the same waits; and with bad moves.
        self.assertIs(False, is_restful(LINE, ["a"], ([], [("b",), ("c",), ("b",), ("a",)])))
        self.assertIs(False, is_restful(plan=([("a",)] * 10, [("a",)]), site=STAYING, starts=["a"]))


class Weights(unittest.TestCase):
    def fits(self, graph, share, weights):
        return all(share[1] * toil - share[0] + weights[start] - weights[end] >= 0 for start, end, toil in arrows_of(graph))

    def test_weights_by_chance(self):
        chance = random.Random(104)
        told = []
        for site, starts in KEPT:
            graph = calm_graph(site, starts)
            share = least_toil(site, starts)
            weights = toil_weights(site, starts)
            for _ in range(8):
                other = dict(weights)
                for node in chance.sample(list(graph), chance.randint(1, min(3, len(graph)))):
                    other[node] += chance.choice((-3, -1, 1, 2, 10 ** 30))
                for fraction in (share, (share[0], share[1] + 1), (share[0] + 1, share[1]), (0, 1)):
                    if math.gcd(*fraction) == 1:
                        told.append(self.fits(graph, fraction, other))
                        self.assertIs(told[-1], are_toil_weights(site, starts, fraction, other))
        self.assertGreater(min(sum(told), len(told) - sum(told)), 50)

    def test_none_for_more_than_the_least_toil(self):
        for site, starts in KEPT[:25]:
            top, bottom = least_toil(site, starts)
            greater = Fraction(top, bottom) + Fraction(1, 1000)
            share = (greater.numerator, greater.denominator)
            weights = {node: weight * share[1] // bottom for node, weight in toil_weights(site, starts).items()}
            self.assertIs(False, are_toil_weights(site, starts, share, weights))

    def test_keys(self):
        for site, starts in ((STAYING, ["a"]), (LINE, ["a", "c"]), (RING, ["c"])):
            if not is_kept(site, starts):
                continue
            weights = {node: 0 for node in calm_graph(site, starts)}
            self.assertIs(True, are_toil_weights(weights=weights, share=(0, 1), starts=starts, site=site))
            # Keys are compared by ==.
            self.assertIs(True, are_toil_weights(site, starts, (0, 1), {kinds_changed(node): 0 for node in weights}))
            for node in list(weights)[:20]:
                without = {key: 0 for key in weights if key != node}
                self.assertIs(False, are_toil_weights(site, starts, (0, 1), without))
                self.assertIs(True, are_toil_weights(site, starts, (0, 1), {**without, kinds_changed(node): 0}))
                for other in (None, 0, "a", (), node[0], node + (0,), (node[0], node[1] + (0,)), deep_key(),
                              (node[0], tuple(wait + 20 for wait in node[1]))):
                    self.assertIs(False, are_toil_weights(site, starts, (0, 1), {**without, other: 0}))
                    self.assertIs(False, are_toil_weights(site, starts, (0, 1), {**weights, other: 0}))

    def test_values(self):
        weights = {node: 0 for node in calm_graph(STAYING, ["a"])}
        for node in weights:
            for value in any_values():
                right = type(value) is int and self.fits(calm_graph(STAYING, ["a"]), (0, 1), {**weights, node: value})
                self.assertIs(right, are_toil_weights(STAYING, ["a"], (0, 1), {**weights, node: value}), repr(value))
        for value in any_values() + [list(weights.items()), list(weights), [weights], (weights,), {}]:
            self.assertIs(False, are_toil_weights(STAYING, ["a"], (0, 1), value))


if __name__ == "__main__":
    unittest.main()
