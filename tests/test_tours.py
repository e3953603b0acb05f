"""Points 2, 3, 11, 12 and 22, with duewalk/tours.py."""

import copy
import random
import unittest

from anyvalues import any_values, nested
from duewalk.errors import BadMove, BadStarts, NotBack, NotCalm, TooLarge
from duewalk.keeping import calm_standings, kept_plan
from duewalk.sites import Site
from duewalk.tours import distances, greatest_waits, keeps_limits, shortest_tour, way_back
from duewalk.walks import followed, has_breach, moves_from, start_of, stepped
from oracles import (
    CASES, FAR_PAIR, LINE, NO_WAY_TO, ONE, PAIR, RING, TIGHT_LINE, WIDE_LINE, calm_graph, distances_of, is_kept, raised,
    size_of, some_cases)
from test_keeping import SMALL_ENOUGH, TOO_LARGE, kinds_changed

RANDOM = some_cases(20, 50)
ROUND = [("b",), ("c",), ("b",), ("a",)]


def waits_by_point_11(site, starts, tour):
    """The greatest waits of a tour that is made four times, the first time left out."""
    standings = followed(site, starts, tour * 4)[len(tour):]
    stood = {place for walkers, _ in standings for place, left in walkers if left == 0}
    return {name: max(waits[at] for _, waits in standings) if name in stood else None
            for at, name in enumerate(site.names)}


def keeps(site, waits):
    return all(waits[name] is not None and waits[name] <= limit for name, limit in zip(site.names, site.limits))


def tours_of(site, starts, most):
    """All tours with up to so many moves, by their lengths."""
    beginning = start_of(site, starts)
    runs = [([], beginning)]
    for _ in range(most):
        runs = [(run + [move], stepped(site, standing, move)) for run, standing in runs for move in moves_from(site, standing)]
        yield from (run for run, standing in runs if standing[0] == beginning[0])


def some_tours(seed, cases, most):
    """Tours by chance, with their sites and starts."""
    chance = random.Random(seed)
    for site, starts in cases:
        beginning = start_of(site, starts)
        for _ in range(6):
            run, standing = [], beginning
            while len(run) < most:
                run.append(chance.choice(moves_from(site, standing)))
                standing = stepped(site, standing, run[-1])
                if standing[0] == beginning[0] and chance.random() < 0.4:
                    yield site, starts, run
                    break


class GreatestWaits(unittest.TestCase):
    def both_raise(self, error, site, starts, tour):
        before = copy.deepcopy(tour)
        for call in (greatest_waits, keeps_limits):
            self.assertEqual(error, raised(call, site, starts, tour), repr(tour))
        self.assertEqual(before, tour)

    def test_example_of_the_document(self):
        waits = greatest_waits(LINE, ["a"], ROUND)
        self.assertEqual({"a": 3, "b": 1, "c": 3}, waits)
        self.assertEqual([int] * 3, [type(wait) for wait in waits.values()])
        self.assertIs(True, keeps_limits(LINE, ["a"], ROUND))
        self.assertIs(False, keeps_limits(TIGHT_LINE, ["a"], ROUND))

    def test_places_where_nobody_comes(self):
        self.assertEqual({"a": 1, "b": 1, "c": None}, greatest_waits(LINE, ["a"], [("b",), ("a",)]))
        self.assertIs(False, keeps_limits(site=WIDE_LINE, starts=["a"], tour=[("b",), ("a",)]))
        self.assertEqual({"a": None, "b": 0}, greatest_waits(NO_WAY_TO, ["b"], [("b",)]))
        self.assertIs(False, keeps_limits(NO_WAY_TO, ["b"], [("b",)] * 40))
        # It is gone by on the way, but no move ends there.
        site = Site.parse("a 9 -> c 2\nb 9 stay\nc 9 -> a 2")
        self.assertEqual({"a": 3, "b": None, "c": 3},
                         greatest_waits(site=site, starts=["a"], tour=[("c",), (None,), ("a",), (None,)]))

    def test_staying_and_two_walkers(self):
        self.assertEqual({"a": 0}, greatest_waits(ONE, ["a"], [("a",)]))
        self.assertIs(True, keeps_limits(ONE, ["a", "a"], [("a", "a")] * 3))
        self.assertEqual({"a": 0, "b": 0}, greatest_waits(PAIR, ["a", "b"], [("b", "a"), ("a", "b")]))
        self.assertEqual({"a": 1, "b": 1}, greatest_waits(PAIR, ["a", "a"], [("b", "b"), ("a", "a")]))
        self.assertIs(False, keeps_limits(PAIR, ["a", "a"], [("b", "b"), ("a", "a")]))
        self.assertIs(True, keeps_limits(PAIR, ["b", "a"], [("a", "b"), ("b", "a")]))

    def test_the_first_time_does_not_count(self):
        # The first time, b is waited for as long as two steps only, later on as long as four.
        site = Site.parse("a 9 stay -> b 1\nb 3 -> a 1")
        tour = [("a",), ("a",), ("b",), ("a",), ("a",)]
        self.assertEqual({"a": 1, "b": 4}, greatest_waits(site, ["a"], tour))
        self.assertIs(False, keeps_limits(site, ["a"], tour))
        self.assertIs(True, keeps_limits(Site.parse("a 1 stay -> b 1\nb 4 -> a 1"), ["a"], tour))

    def test_bad_moves_may_be_made(self):
        site = Site.parse("a 0 -> b 3\nb 0 -> a 3")
        self.assertEqual({"a": 5, "b": 5}, greatest_waits(site, ["b"], [("a",), (None,), (None,), ("b",), (None,), (None,)]))

    def test_limits_that_just_do(self):
        for limit, told in ((2, False), (3, True), (4, True)):
            for text in (f"a {limit} -> b 1\nb 1 -> a 1 c 1\nc 3 -> b 1", f"a 3 -> b 1\nb 1 -> a 1 c 1\nc {limit} -> b 1"):
                self.assertIs(told, keeps_limits(Site.parse(text), ["a"], ROUND))
        self.assertIs(False, keeps_limits(Site.parse("a 3 -> b 1\nb 0 -> a 1 c 1\nc 3 -> b 1"), ["a"], ROUND))

    def test_by_the_words_of_point_11(self):
        kept = many = 0
        for site, starts, tour in some_tours(21, CASES + RANDOM, 25):
            waits = waits_by_point_11(site, starts, tour)
            self.assertEqual(waits, greatest_waits(site, starts, tour))
            self.assertIs(keeps(site, waits), keeps_limits(site, starts, tour))
            kept += keeps(site, waits)
            many += 1
            if keeps(site, waits):
                self.assertFalse(any(has_breach(site, one) for one in followed(site, starts, tour * 3)))
        self.assertGreater(kept, 10)
        self.assertGreater(many - kept, 50)

    def test_no_starts(self):
        for value in any_values() + [["d"], ["a", "d"], ("a",), "a", []]:
            self.both_raise((BadStarts,), LINE, value, ROUND)
            self.both_raise((BadStarts,), LINE, value, None)

    def test_bad_moves(self):
        self.both_raise((BadMove, 0), LINE, ["a"], [])
        for value in any_values() + [("b",), tuple(ROUND), "baba", {("b",): ("a",)}, {0: ("b",), 1: ("a",)}, nested(ROUND, 47)]:
            self.both_raise((BadMove, 0), LINE, ["a"], value)
        for at in range(4):
            for wrong in any_values() + ["b", ["b"], ("a", "a"), (None,), ("a",) if at % 2 == 0 else ("b",), ("z",)]:
                self.both_raise((BadMove, at), LINE, ["a"], ROUND[:at] + [wrong] + ROUND[at + 1:])
        # Two things that are no moves, and one behind which the walkers are not back.
        self.both_raise((BadMove, 1), LINE, ["a"], [("b",), None, None])
        self.both_raise((BadMove, 2), LINE, ["a"], [("b",), ("c",), ("a",)])

    def test_not_back(self):
        self.both_raise((NotBack,), LINE, ["a"], ROUND[:1])
        self.both_raise((NotBack,), LINE, ["a"], ROUND[:2])
        self.both_raise((NotBack,), LINE, ["a"], ROUND[:3])
        self.both_raise((NotBack,), LINE, ["b"], [("c",)])
        # Each walker must be back at its own place, and stand there.
        self.both_raise((NotBack,), PAIR, ["a", "b"], [("b", "a")])
        self.both_raise((NotBack,), LINE, ["a", "c"], [("b", "b"), ("c", "a")])
        self.both_raise((NotBack,), LINE, ["a", "c"], [("b", "b"), ("a", "a")])
        self.both_raise((NotBack,), FAR_PAIR, ["a"], [("b",), (None,), (None,), ("a",), (None,)])
        self.both_raise((NotBack,), RING, ["d"], [("d",), ("a",)])
        self.assertIsNone(raised(greatest_waits, LINE, ["a", "c"], [("b", "b"), ("a", "c")]))

    def test_never_too_large(self):
        for text, starts, _, _ in TOO_LARGE:
            site = Site.parse(text)
            self.assertEqual((BadMove, 0), raised(keeps_limits, site, starts, None))
            tour = next(tour for _, _, tour in some_tours(22, [(site, starts)], 60))
            self.assertEqual(waits_by_point_11(site, starts, tour), greatest_waits(site, starts, tour))
            self.assertIs(keeps(site, greatest_waits(site, starts, tour)), keeps_limits(site, starts, tour))

    def test_long_tours_and_new_results(self):
        tour = ROUND * 2000
        before = list(tour)
        waits = greatest_waits(LINE, ["a"], tour)
        self.assertEqual({"a": 3, "b": 1, "c": 3}, waits)
        waits["a"] = 7
        self.assertEqual({"a": 3, "b": 1, "c": 3}, greatest_waits(LINE, ["a"], tour))
        self.assertEqual(before, tour)


class Distances(unittest.TestCase):
    def both_raise(self, error, site, starts, standing):
        for call in (distances, way_back):
            self.assertEqual(error, raised(call, site, starts, standing), repr(standing))

    def judge_way_back(self, site, starts, node, length):
        way = way_back(site, starts, node)
        if length is None:
            self.assertIsNone(way)
            return
        self.assertEqual((list, length), (type(way), len(way)))
        standing = node
        for move in way:
            self.assertIn(move, moves_from(site, standing))
            standing = stepped(site, standing, move)
            self.assertFalse(has_breach(site, standing))
        self.assertEqual(node, standing)

    def test_small_ones(self):
        node = ((("a", 0),), (0,))
        self.assertEqual({node: 1}, distances(ONE, ["a"], node))
        self.assertEqual([("a",)], way_back(ONE, ["a"], node))
        # No move that is not bad leads anywhere.
        node = ((("a", 0),), (0, 0))
        self.assertEqual({node: None}, distances(site=PAIR, starts=["a"], standing=node))
        self.assertIsNone(way_back(site=PAIR, starts=["a"], standing=node))
        first, second = ((("a", 0), ("b", 0)), (0, 0)), ((("b", 0), ("a", 0)), (0, 0))
        self.assertEqual({first: 2, second: 1}, distances(PAIR, ["b", "a"], first))
        self.assertEqual([("a", "b"), ("b", "a")], way_back(PAIR, ["a", "b"], second))
        # The beginning can't be reached again, as all waits are 0 then alone.
        told = distances(LINE, ["a"], start_of(LINE, ["a"]))
        self.assertEqual({None}, set(told.values()))
        self.assertEqual(set(calm_standings(LINE, ["a"])), set(told))
        told = distances(LINE, ["a"], ((("a", 0),), (0, 1, 2)))
        self.assertEqual((4, 2), (told[((("a", 0),), (0, 1, 2))], told[start_of(LINE, ["a"])]))

    def test_by_the_words_of_point_12(self):
        chance = random.Random(23)
        there = none = 0
        for site, starts in CASES + RANDOM:
            graph = calm_graph(site, starts)
            for node in chance.sample(list(graph), min(len(graph), 6)) + [start_of(site, starts)]:
                told = distances_of(graph, node)
                self.assertEqual(told, distances(site, starts, node))
                self.judge_way_back(site, starts, node, told[node])
                there += told[node] is not None
                none += told[node] is None
        self.assertGreater(min(there, none), 20)

    def test_ways_of_more_steps(self):
        standings = [start_of(FAR_PAIR, ["a"])]
        standings += followed(FAR_PAIR, ["a"], [("b",), (None,), (None,), ("a",), (None,), (None,)])
        self.assertEqual([6, 5, 4, 3, 2, 1, 6], [distances(FAR_PAIR, ["a"], standings[6])[node] for node in standings])
        self.assertEqual([("b",), (None,), (None,), ("a",), (None,), (None,)], way_back(FAR_PAIR, ["a"], standings[6]))

    def test_errors(self):
        calm = ((("a", 0),), (0, 1, 2))
        for value in any_values() + [["d"], ("a",), ["a", "d"], []]:
            self.both_raise((BadStarts,), LINE, value, calm)
            self.both_raise((BadStarts,), LINE, value, None)
        wrong = [
            ((("a", 0),), (0, 3, 0)), ((("a", 0),), (0, 1, 0)), ((("a", 0), ("a", 0)), (0, 0, 0)), ((("b", 0),), (0, 0, 0)),
            ((("a", 0),), (0, 0)), [(("a", 0),), (0, 1, 2)], ((["a", 0],), (0, 1, 2)), ((("a", 0),), [0, 1, 2]), kinds_changed(calm),
            ((("a", 0),), (0, True, 2)), ((("a", False),), (0, 1, 2)), (calm,), calm + ((),), nested(calm, 46), {calm: 1}, [calm],
        ]
        for value in any_values() + wrong:
            self.both_raise((NotCalm,), LINE, ["a"], value)
        self.assertIsNone(raised(distances, LINE, ["a"], calm))

    def test_sizes(self):
        for text, starts, _, _ in TOO_LARGE:
            site = Site.parse(text)
            for value in [None, start_of(site, starts), {}]:
                self.both_raise((TooLarge,), site, starts, value)
                self.both_raise((BadStarts,), site, tuple(starts), value)
        for text, starts, _, _ in SMALL_ENOUGH:
            site = Site.parse(text)
            graph = calm_graph(site, starts)
            node = sorted(graph)[100]
            self.assertEqual(distances_of(graph, node), distances(site, starts, node))

    def test_results_are_new(self):
        node = ((("a", 0),), (0, 1, 2))
        before = distances(LINE, ["a"], node)
        distances(LINE, ["a"], node).clear()
        way_back(LINE, ["a"], node).clear()
        self.assertEqual(before, distances(LINE, ["a"], node))
        self.judge_way_back(LINE, ["a"], node, 4)


class ShortestTours(unittest.TestCase):
    def judge(self, site, starts, tour):
        self.assertIs(list, type(tour))
        self.assertTrue(keeps(site, waits_by_point_11(site, starts, tour)))
        self.assertIs(True, keeps_limits(site, starts, tour))

    def test_small_ones(self):
        self.assertEqual([("a",)], shortest_tour(ONE, ["a"]))
        self.assertEqual([("b",), ("c",), ("b",), ("a",)], shortest_tour(LINE, ["a"]))
        self.assertEqual(4, len(shortest_tour(WIDE_LINE, ["b"])))
        self.assertIsNone(shortest_tour(site=TIGHT_LINE, starts=["a"]))
        self.assertIsNone(shortest_tour(PAIR, ["a"]))
        self.assertIsNone(shortest_tour(NO_WAY_TO, ["b"]))
        self.assertEqual([("b", "a"), ("a", "b")], shortest_tour(PAIR, ["a", "b"]))
        self.assertEqual(6, len(shortest_tour(FAR_PAIR, ["a"])))
        self.assertEqual(8, len(shortest_tour(RING, ["c"])))

    def test_kept_without_a_tour(self):
        # The walker that goes to c stays there for ever.
        site = Site.parse("a 9 -> b 1 c 1\nb 9 -> a 1\nc 0 stay")
        self.assertTrue(is_kept(site, ["a", "a"]))
        self.assertIsNone(shortest_tour(site, ["a", "a"]))
        self.assertEqual(2, len(shortest_tour(site, ["a", "c"])))
        site = Site.parse("a 0 stay -> b 1\nb 0 stay")
        self.assertIsNone(shortest_tour(site, ["a", "a"]))
        self.assertEqual([("a", "b")], shortest_tour(site, ["a", "b"]))

    def test_none_is_shorter(self):
        found = 0
        for site, starts in CASES + some_cases(26, 80, 3, 150):
            tour = shortest_tour(site, starts)
            most = 6 if len(starts) == 1 else 3
            if tour is not None:
                self.judge(site, starts, tour)
                most = min(most, len(tour) - 1)
                found += 1
            for other in tours_of(site, starts, most):
                self.assertFalse(keeps(site, waits_by_point_11(site, starts, other)), (str(site), starts, other))
        self.assertGreater(found, 30)

    def test_as_long_as_the_shortest_way_back(self):
        for site, starts in CASES + RANDOM:
            graph = calm_graph(site, starts)
            beginning = start_of(site, starts)[0]
            lengths = [distances_of(graph, node)[node] for node in graph if node[0] == beginning]
            shortest = min([length for length in lengths if length is not None], default=None)
            tour = shortest_tour(site, starts)
            if tour is not None:
                self.judge(site, starts, tour)
            self.assertEqual(shortest, None if tour is None else len(tour))

    def test_one_walker_has_a_tour_where_the_site_is_kept(self):
        for site, starts in CASES + RANDOM:
            if len(starts) == 1:
                self.assertIs(kept_plan(site, starts) is not None, shortest_tour(site, starts) is not None)

    def test_errors_and_sizes(self):
        for value in any_values() + [["d"], ("a",)]:
            self.assertEqual((BadStarts,), raised(shortest_tour, LINE, value))
        for text, starts, _, _ in TOO_LARGE:
            self.assertEqual((TooLarge,), raised(shortest_tour, Site.parse(text), starts))
            self.assertEqual((BadStarts,), raised(shortest_tour, Site.parse(text), tuple(starts)))
        for text, starts, standings, moves in SMALL_ENOUGH:
            site = Site.parse(text)
            self.assertEqual((standings, moves), size_of(site, starts, calm_graph(site, starts)))
            tour = shortest_tour(site, starts)
            if tour is not None:
                self.judge(site, starts, tour)
            elif len(starts) == 1:
                self.assertFalse(is_kept(site, starts))

    def test_results_are_new(self):
        starts = ["a"]
        shortest_tour(LINE, starts).clear()
        self.assertEqual((ROUND, ["a"]), (shortest_tour(LINE, starts), starts))


if __name__ == "__main__":
    unittest.main()
