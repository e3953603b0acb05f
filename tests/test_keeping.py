"""Points 2, 3, 10 and 22, with duewalk/keeping.py."""

import copy
import random
import unittest

from anyvalues import any_values, deep_key, nested
from duewalk.errors import BadStarts, TooLarge
from duewalk.keeping import (
    are_safe, calm_standings, fewest_walkers, is_plan, kept_plan, longest_time, safe_table, time_table)
from duewalk.sites import Site
from duewalk.walks import followed, has_breach, moves_from, start_of, stepped
from oracles import (
    CASES, FAR_PAIR, LINE, NO_WAY_TO, ONE, PAIR, TIGHT_LINE, calm_graph, raised, safe_of, size_of, some_cases, times_of)

# (text, starts, calm standings, moves from them)
SMALL_ENOUGH = [
    ("a 3 -> b 3 d 1 e 2\nb 8 stay -> a 1 c 1 d 1\nc 9 -> a 1 b 1 d 1 e 3\nd 3 stay -> a 2 b 1 c 1 e 1\ne 7 -> a 2 c 3 d 1",
     ["b"], 600, 1849),
    ("a 6 -> c 1 d 1 e 3\nb 4 -> a 3 e 3\nc 5 stay -> b 1\nd 2 -> a 1 b 1 e 2\ne 9 -> a 1", ["e", "a"], 600, 1632),
    ("a 6 stay -> b 2 c 1 d 1\nb 5 stay -> a 3 c 1\nc 8 stay -> a 2 b 1\nd 0 stay -> a 2 b 1 c 1", ["a", "d"], 467, 4000),
    ("a 0 -> b 1 c 1 d 1 e 2 f 1\nb 9 -> a 2 c 1 d 1 e 3 f 1\nc 7 stay -> a 1 d 3 f 1\nd 4 -> a 1 b 1 c 1 f 1\n"
     "e 8 stay -> a 1 b 2 c 1 d 1 f 1\nf 8 stay -> a 2 b 2 c 1 d 1 e 2", ["c", "a"], 200, 4000),
]
TOO_LARGE = [
    ("a 5 stay -> d 3\nb 8 stay\nc 6 -> a 1 b 1 d 1\nd 6 -> a 1 b 1 c 1", ["a", "a"], 601, 1632),
    ("a 8 stay -> b 2 c 1\nb 9 stay -> a 3 c 3\nc 3 -> a 1 b 1", ["c", "c"], 601, 1747),
    ("a 8 -> b 2 c 1 d 1\nb 4 stay -> c 1 d 1\nc 7 -> a 3 b 2 d 3\nd 0 stay -> a 1 b 1 c 1", ["b", "c"], 424, 4001),
    ("a 9 stay -> b 2 c 1 d 2\nb 1 -> a 1 d 1\nc 6 stay -> a 1 d 1\nd 8 stay -> a 1 b 1 c 1", ["a", "a"], 532, 4001),
]
WITH_STARTS = [calm_standings, safe_table, time_table, kept_plan, longest_time]
WITH_A_VALUE = [are_safe, is_plan]
RANDOM = some_cases(10, 60)


def is_plan_by_point_10(site, starts, plan):
    """Whether a pair of lists of moves is a plan."""
    run, loop = plan
    standings = [start_of(site, starts)] + followed(site, starts, run + loop)
    return bool(loop) and standings[len(run)] == standings[-1] and not any(has_breach(site, one) for one in standings)


def kinds_changed(value):
    """A value with False and True for 0 and 1, which is equal to it."""
    if isinstance(value, tuple):
        return tuple(kinds_changed(part) for part in value)
    return bool(value) if value in (0, 1) else value


class Errors(unittest.TestCase):
    def all_raise(self, error, site, starts):
        for call in WITH_STARTS:
            self.assertEqual(error, raised(call, site, starts), (call.__name__, starts))
        for call in WITH_A_VALUE:
            for value in ({}, ([], [("a",)]), None, nested({}, 49)):
                self.assertEqual(error, raised(call, site, starts, value), (call.__name__, starts))

    def test_no_starts(self):
        large = Site.parse(TOO_LARGE[0][0])
        wrong = [[], ["a", "b", "a"], ["z"], ["a", "z"], ("a",), "a", {"a": 0}, [["a"]], [None], ["a", None], [0]]
        for value in wrong + any_values():
            for site in (LINE, large):
                self.all_raise((BadStarts,), site, value)
                self.assertEqual((BadStarts,), raised(fewest_walkers, site, value))

    def test_as_large_as_may_be(self):
        for text, starts, standings, moves in SMALL_ENOUGH:
            site = Site.parse(text)
            graph = calm_graph(site, starts)
            self.assertEqual((standings, moves), size_of(site, starts, graph))
            self.assertEqual(set(graph), set(calm_standings(site, starts)))
            self.assertEqual(times_of(graph), time_table(site, starts))
            self.assertTrue(are_safe(site, starts, safe_table(site, starts)))
            self.assertEqual(longest_time(site, starts) is None, kept_plan(site, starts) is not None)
            self.assertIs(False, is_plan(site, starts, None))

    def test_too_large(self):
        for text, starts, standings, moves in TOO_LARGE:
            site = Site.parse(text)
            self.assertEqual((standings, moves), size_of(site, starts, calm_graph(site, starts)))
            self.all_raise((TooLarge,), site, starts)

    def test_much_too_large(self):
        site = Site.parse("\n".join(
            f"{name} 9 stay -> " + " ".join(f"{end} 3" for end in "abcdef" if end != name) for name in "abcdef"))
        self.all_raise((TooLarge,), site, ["a", "f"])
        self.all_raise((TooLarge,), site, ["a"])
        self.assertEqual((TooLarge,), raised(fewest_walkers, site, ["a", "f"]))


class Tables(unittest.TestCase):
    def test_examples_of_the_document(self):
        self.assertEqual(4, longest_time(TIGHT_LINE, ["a"]))
        self.assertEqual([0, 1, 2, 3, 4], sorted(time_table(TIGHT_LINE, ["a"]).values()))

    def test_small_ones(self):
        self.assertEqual([((("a", 0),), (0,))], calm_standings(ONE, ["a"]))
        self.assertEqual({((("a", 0),), (0,)): ("a",)}, safe_table(ONE, ["a"]))
        self.assertEqual({}, time_table(ONE, ["a"]))
        self.assertEqual({((("a", 0), ("a", 0)), (0,)): ("a", "a")}, safe_table(site=ONE, starts=["a", "a"]))
        # Lost at the beginning, where each move is bad.
        self.assertEqual([((("a", 0),), (0, 0))], calm_standings(PAIR, ["a"]))
        self.assertEqual({}, safe_table(PAIR, ["a"]))
        self.assertEqual({((("a", 0),), (0, 0)): 0}, time_table(PAIR, ["a"]))
        self.assertEqual(0, longest_time(PAIR, ["a"]))
        self.assertEqual(0, longest_time(PAIR, ["b", "b"]))
        # Two walkers that change places.
        first, second = ((("a", 0), ("b", 0)), (0, 0)), ((("b", 0), ("a", 0)), (0, 0))
        self.assertEqual({first: ("b", "a"), second: ("a", "b")}, safe_table(PAIR, ["a", "b"]))
        self.assertEqual({}, time_table(site=PAIR, starts=["b", "a"]))
        self.assertIsNone(longest_time(site=PAIR, starts=["b", "a"]))
        # Ways of three steps, and limits that just do.
        self.assertEqual(9, len(calm_standings(site=FAR_PAIR, starts=["b"])))
        self.assertIsNone(longest_time(FAR_PAIR, ["b"]))
        self.assertEqual(7, longest_time(Site.parse("a 5 -> b 3\nb 4 -> a 3"), ["a"]))
        # A place to which no way leads can't be kept but by a walker that stays there.
        self.assertEqual(2, longest_time(NO_WAY_TO, ["a"]))
        self.assertEqual([0, 1, 2], sorted(time_table(NO_WAY_TO, ["b"]).values()))
        self.assertIsNone(longest_time(Site.parse("a 0 stay -> b 1\nb 0 stay"), ["a", "b"]))

    def judge(self, site, starts):
        graph = calm_graph(site, starts)
        times, safe = times_of(graph), safe_of(graph)
        standings = calm_standings(site, starts)
        self.assertIs(list, type(standings))
        self.assertEqual(len(graph), len(standings))
        self.assertEqual(set(graph), set(standings))
        self.assertEqual(times, time_table(site, starts))
        table = safe_table(site, starts)
        self.assertEqual(safe, set(table))
        for standing, move in table.items():
            self.assertIn(graph[standing][move], safe)
        self.assertIs(True, are_safe(site, starts, table))
        self.assertEqual(times.get(start_of(site, starts)), longest_time(site, starts))
        plan = kept_plan(site, starts)
        if start_of(site, starts) in times:
            self.assertIsNone(plan)
        else:
            self.assertEqual([tuple, list, list], [type(plan), type(plan[0]), type(plan[1])])
            self.assertTrue(is_plan_by_point_10(site, starts, plan))
            self.assertIs(True, is_plan(site, starts, plan))
        return bool(safe), bool(times)

    def test_by_the_words_of_point_10(self):
        told = [self.judge(site, starts) for site, starts in CASES + RANDOM]
        self.assertEqual({(True, False), (False, True), (True, True)}, set(told))

    def test_times_are_played_out(self):
        site = TIGHT_LINE
        run = []
        standing = start_of(site, ["a"])
        times = time_table(site, ["a"])
        while times[standing]:
            move = [move for move in moves_from(site, standing)
                    if times.get(stepped(site, standing, move)) == times[standing] - 1][0]
            run.append(move)
            standing = stepped(site, standing, move)
        self.assertEqual(4, len(run))
        self.assertTrue(all(has_breach(site, stepped(site, standing, move)) for move in moves_from(site, standing)))

    def test_results_are_new(self):
        for call in WITH_STARTS[:4]:
            for site, starts in ((LINE, ["a"]), (TIGHT_LINE, ["c"]), (PAIR, ["a", "b"])):
                before, handed_in = copy.deepcopy(call(site, starts)), list(starts)
                other = call(site, starts)
                if isinstance(other, tuple):
                    other[0].append(7)
                    other[1].clear()
                elif other is not None:
                    other.clear()
                self.assertEqual(before, call(Site.parse(str(site)), starts))
                self.assertEqual(before, call(site, starts))
                self.assertEqual(handed_in, starts)

    def test_by_turns(self):
        pairs = CASES[:8]
        alone = [[call(Site.parse(str(site)), list(starts)) for call in WITH_STARTS] for site, starts in pairs]
        by_turns = [[call(site, starts) for site, starts in pairs] for call in WITH_STARTS]
        self.assertEqual(alone, [list(column) for column in zip(*by_turns)])


class SafeTables(unittest.TestCase):
    def refuses(self, site, starts, table):
        before = copy.deepcopy(table)
        self.assertIs(False, are_safe(site, starts, table), repr(table))
        self.assertEqual(before, table)

    def test_right_ones(self):
        self.assertIs(True, are_safe(site=PAIR, starts=["a"], table={}))
        self.assertIs(True, are_safe(TIGHT_LINE, ["a"], {}))
        table = safe_table(LINE, ["a"])
        self.assertIs(True, are_safe(LINE, ["a"], dict(reversed(list(table.items())))))

    def test_any_choice_of_moves(self):
        chance = random.Random(5)
        right = wrong = 0
        for site, starts in RANDOM[:40]:
            graph = calm_graph(site, starts)
            safe = safe_of(graph)
            for _ in range(5):
                table = {node: chance.choice(moves_from(site, node)) for node in safe}
                told = all(graph[node].get(move) in safe for node, move in table.items())
                self.assertIs(told, are_safe(site, starts, table))
                right += told and bool(safe)
                wrong += not told
        self.assertGreater(min(right, wrong), 10)

    def test_wrong_keys(self):
        for site, starts in [(LINE, ["a"]), (FAR_PAIR, ["a"]), (LINE, ["c", "a"])]:
            table = safe_table(site, starts)
            lost = list(time_table(site, starts))
            for node in list(table):
                self.refuses(site, starts, {key: move for key, move in table.items() if key != node})
                others = [None, 0, "a", (), node[0], (node[0], node[1], ()), (node[0], node[1] + (0,)), kinds_changed(node),
                          (node[0], tuple(wait + 10 for wait in node[1])), (node[0] + (("a", 0),), node[1]), deep_key()]
                for other in others + lost:
                    changed = {key: move for key, move in table.items() if key != node}
                    self.refuses(site, starts, {**changed, other: table[node]})
            for other in lost + [None, ((("a", 0),), (0, 9, 9)), "", 7, True]:
                self.refuses(site, starts, {**table, other: moves_from(site, start_of(site, starts))[0]})

    def test_wrong_moves(self):
        for site, starts in [(LINE, ["a"]), (FAR_PAIR, ["a"]), (LINE, ["c", "a"])]:
            table = safe_table(site, starts)
            node = start_of(site, starts)
            for move in any_values() + [list(table[node]), table[node] + (None,), table[node][0], [table[node]], ("b", "b", "b")]:
                self.refuses(site, starts, {**table, node: move})

    def test_wrong_kinds(self):
        table = safe_table(LINE, ["a"])
        for value in any_values() + [list(table.items()), list(table), [table], (table,), tuple(table.items()), {"k": table}]:
            self.refuses(LINE, ["a"], value)
        for value in any_values():
            if value != {}:
                self.refuses(PAIR, ["a"], value)


class Plans(unittest.TestCase):
    ROUND = [("b",), ("c",), ("b",), ("a",)]

    def refuses(self, site, starts, plan):
        before = copy.deepcopy(plan)
        self.assertIs(False, is_plan(site, starts, plan), repr(plan))
        self.assertEqual(before, plan)

    def test_right_ones(self):
        self.assertIs(True, is_plan(LINE, ["a"], (self.ROUND, self.ROUND)))
        self.assertIs(True, is_plan(site=LINE, starts=["a"], plan=(self.ROUND, self.ROUND * 50)))
        self.assertIs(True, is_plan(LINE, ["a"], (self.ROUND[:2], self.ROUND[2:] + self.ROUND[:2])))
        self.assertIs(True, is_plan(ONE, ["a"], ([], [("a",)])))
        self.assertIs(True, is_plan(ONE, ["a"], ([("a",)] * 3000, [("a",)] * 3000)))
        self.assertIs(True, is_plan(PAIR, ["a", "b"], ([], [("b", "a"), ("a", "b")])))
        self.assertIs(True, is_plan(PAIR, ["a", "b"], ([("b", "a")], [("a", "b"), ("b", "a")])))

    def test_wrong_ones(self):
        there = self.ROUND
        # The walkers come back, but what was waited is not the same.
        self.refuses(LINE, ["a"], ([], there))
        self.refuses(LINE, ["a"], (there, []))
        self.refuses(LINE, ["a"], (there, there[:2]))
        self.refuses(LINE, ["b"], (there, there))
        self.refuses(LINE, ["a"], ([("b",), ("c",)], there))
        self.refuses(LINE, ["a"], (there, there[2:] + there[:2]))
        self.refuses(TIGHT_LINE, ["a"], (there, there))
        self.refuses(LINE, ["a"], (there + [("b",), ("a",), ("b",), ("a",)], there))
        # The loop comes back behind bad moves.
        site = Site.parse("a 1 -> b 1\nb 0 stay -> a 1")
        self.refuses(site, ["a"], ([("b",), ("a",)], [("b",), ("a",)]))
        self.refuses(site, ["a"], ([("b",), ("b",), ("a",), ("b",)], [("b",)]))
        self.refuses(PAIR, ["a", "a"], ([], [("b", "b"), ("a", "a")]))
        self.refuses(PAIR, ["a", "b"], ([], [("b", "a")]))

    def test_wrong_moves(self):
        for wrong in any_values() + [["b"], "b", ("b", "b"), ("a",), (None,)]:
            for at in range(4):
                other = [wrong if number == at else move for number, move in enumerate(self.ROUND)]
                if other != self.ROUND:
                    self.refuses(LINE, ["a"], (other, self.ROUND))
                    self.refuses(LINE, ["a"], (self.ROUND, other))

    def test_wrong_kinds(self):
        there = self.ROUND
        for value in any_values() + [
            [there, there], (there,), (there, there, there), (there, there, []), {"run": there, "loop": there}, there,
            (tuple(there), there), (there, tuple(there)), (None, there), (there, None), ({}, there), (there, {1: there}),
            ([there], there), (there, [there]), ((there, there), there), "ab", (there, 4), (there, True), nested((there, there), 46),
        ]:
            self.refuses(LINE, ["a"], value)
        for value in any_values():
            self.refuses(LINE, ["a"], (there, value))
            if value != []:
                self.refuses(LINE, ["a"], (value, there))

    def test_walks_by_chance(self):
        chance = random.Random(6)
        told = []
        for site, starts in CASES + RANDOM[:30]:
            for _ in range(15):
                standing, run = start_of(site, starts), []
                for _ in range(chance.randint(1, 9)):
                    run.append(chance.choice(moves_from(site, standing)))
                    standing = stepped(site, standing, run[-1])
                for at in range(len(run) + 1):
                    plan = (run[:at], run[at:])
                    self.assertIs(is_plan_by_point_10(site, starts, plan), is_plan(site, starts, plan))
                    told.append(is_plan(site, starts, plan))
        self.assertGreater(min(sum(told), len(told) - sum(told)), 20)


class FewestWalkers(unittest.TestCase):
    def test_ordinary_ones(self):
        self.assertEqual(1, fewest_walkers(LINE, ["a", "c"]))
        self.assertEqual(1, fewest_walkers(ONE, ["a", "a"]))
        self.assertEqual(2, fewest_walkers(PAIR, ["a", "b"]))
        self.assertIsNone(fewest_walkers(site=PAIR, starts=["a", "a"]))
        self.assertEqual(2, fewest_walkers(Site.parse("a 0 stay\nb 0 stay"), ["b", "a"]))
        self.assertIsNone(fewest_walkers(Site.parse("a 0 stay\nb 0 stay\nc 9 stay"), ["a", "b"]))

    def test_the_first_one_counts_alone(self):
        site = Site.parse("a 0 stay\nb 9 stay -> a 1")
        self.assertEqual(1, fewest_walkers(Site.parse("a 9 stay -> b 1\nb 9 stay -> a 1"), ["a", "b"]))
        self.assertEqual(2, fewest_walkers(site, ["a", "b"]))
        self.assertEqual(2, fewest_walkers(Site.parse("a 0 stay\nb 0 stay"), ["a", "b"]))
        self.assertIsNone(longest_time(Site.parse("a 1 -> b 1\nb 1 -> a 1"), ["b"]))

    def test_one_name(self):
        for site, name in ((LINE, "a"), (ONE, "a"), (PAIR, "b"), (Site.parse(TOO_LARGE[0][0]), "a")):
            self.assertEqual((BadStarts,), raised(fewest_walkers, site, [name]))

    def test_by_the_words(self):
        for site, starts in CASES + some_cases(12, 60):
            if len(starts) == 2:
                counts = [many for many in (1, 2) if start_of(site, starts[:many]) in safe_of(calm_graph(site, starts[:many]))]
                self.assertEqual(counts[0] if counts else None, fewest_walkers(site, starts))

    def test_too_large(self):
        # Too large for two walkers, who need not be looked at, as the first one will do.
        site = Site.parse("a 9 stay -> b 3 c 2\nb 9 stay -> a 2\nc 8 -> a 2")
        self.assertEqual((TooLarge,), raised(longest_time, site, ["b", "b"]))
        self.assertEqual(1, fewest_walkers(site, ["b", "b"]))
        # Too large for two walkers, one of whom is too few.
        site = Site.parse("a 4 stay -> c 2 d 1\nb 9 -> a 1\nc 6 -> b 3\nd 9 -> b 1")
        self.assertIsNotNone(longest_time(site, ["b"]))
        self.assertEqual((TooLarge,), raised(fewest_walkers, site, ["b", "d"]))
        # Too large for one walker.
        site = Site.parse("a 7 -> b 1 c 1 d 2\nb 7 -> a 1 c 1 d 3\nc 3 stay -> a 1 b 1 d 3\nd 9 -> a 1 b 1 c 1")
        self.assertEqual((TooLarge,), raised(longest_time, site, ["b"]))
        self.assertEqual((TooLarge,), raised(fewest_walkers, site, ["b", "b"]))

    def test_starts_stay(self):
        starts = ["a", "b"]
        fewest_walkers(PAIR, starts)
        self.assertEqual(["a", "b"], starts)


if __name__ == "__main__":
    unittest.main()
