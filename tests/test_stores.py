"""Points 2, 3, 25, 26 and 30, with duewalk/stores.py."""

import copy
import random
import unittest
from fractions import Fraction

from anyvalues import any_values, deep_key, nested
from duewalk.errors import BadStarts, TooLarge
from duewalk.keeping import longest_time, safe_table
from duewalk.sites import Site, turned, with_limits
from duewalk.stores import are_stocked, least_size, need_table, short_times, stock_table
from duewalk.toil import least_toil
from duewalk.walks import moves_from, start_of
from games import broken_times, needs_by_point_26, with_units
from oracles import (
    CASES, FAR_PAIR, LINE, NO_WAY_TO, ONE, PAIR, TIGHT_LINE, calm_graph, is_kept, raised, size_of, some_cases)
from test_keeping import TOO_LARGE as TOO_MANY_AT_FIRST
from test_keeping import kinds_changed

STAYING = Site.parse("a 9 stay -> b 1\nb 9 -> a 1")
LONG = Site.parse("a 9 stay -> b 3\nb 9 stay -> a 2")
HUGE = Site.parse("\n".join(
    f"{name} 9 stay -> " + " ".join(f"{end} 3" for end in "abcdef" if end != name) for name in "abcdef"))
# (text, starts, calm standings, moves from them)
SMALL_ENOUGH = [
    ("a 9 -> b 1 c 3\nb 3 stay -> a 2 c 2\nc 8 -> a 1 b 1", ["a"], 150, 268),
    ("a 5 -> b 1 c 3\nb 8 -> a 2 c 1\nc 8 -> b 1", ["a", "b"], 150, 283),
]
TOO_LARGE = [
    ("a 6 stay -> b 1 c 2\nb 8 -> a 1 c 1\nc 9 -> a 1 b 1", ["a"], 151, 318),
    ("a 6 -> c 1\nb 5 -> a 1 c 1\nc 6 -> a 2 b 3", ["a", "a"], 151, 257),
    ("a 1 stay -> b 1 c 1 d 2 e 1 f 3\nb 8 -> a 3 c 1 d 3 e 1 f 3\nc 0 -> a 1 b 1 d 1 e 1 f 1\nd 7 -> a 1 b 1 c 1 e 1 f 1\n"
     "e 7 stay -> a 3 b 1 c 1 d 1 f 1\nf 2 stay -> a 3 b 1 c 1 d 1 e 3", ["a", "e"], 142, 4001),
]
NAMED = [(site, starts) for site, starts in CASES if len(calm_graph(site, starts)) <= 120]
NAMED += [(STAYING, ["a"]), (STAYING, ["b"]), (STAYING, ["a", "b"]), (LONG, ["a"])]
RANDOM = [(site, starts) for site, starts in some_cases(110, 90, 4, 300) if len(calm_graph(site, starts)) <= 100]


def resting_cases(seed, many):
    """Sites of one to three places where one may stay at some, with limits that leave time for it."""
    chance = random.Random(seed)
    cases = []
    while len(cases) < many:
        names = "abc"[:chance.randint(1, 3)]
        rows = []
        for name in names:
            ways = "".join(f" {end} {chance.choice((1, 1, 2))}" for end in names if end != name)
            rows.append(f"{name} {chance.randint(3, 9)}" + " stay" * (not ways or chance.random() < 0.6) + " ->" * bool(ways) + ways)
        site = Site.parse("\n".join(rows))
        starts = [chance.choice(names) for _ in range(chance.choice((1, 1, 2)))]
        graph = calm_graph(site, starts, 150)
        if len(graph) <= 150:
            cases.append((site, starts))
    return cases


RESTING = resting_cases(111, 40)


def stocked_graph(site, starts, size):
    graph = {node: {None: steps} for node, steps in calm_graph(site, starts).items()}
    return with_units(graph, size, lambda standing: standing)


class Stores(unittest.TestCase):
    def all_raise(self, error, site, starts):
        for size in (0, 5, 12):
            for call in (need_table, stock_table, short_times):
                self.assertEqual(error, raised(call, site, starts, size), call.__name__)
            for value in (None, {}, nested({}, 49)):
                self.assertEqual(error, raised(are_stocked, site, starts, size, value))
        self.assertEqual(error, raised(least_size, site, starts))

    def judge(self, site, starts, size):
        stocked = stocked_graph(site, starts, size)
        short = broken_times(stocked)
        needs = needs_by_point_26(stocked, size)
        self.assertEqual(needs, need_table(site, starts, size))
        self.assertTrue(all(need is None or type(need) is int for need in need_table(site, starts, size).values()))
        self.assertEqual(short, short_times(site, starts, size))
        table = stock_table(site, starts, size)
        self.assertEqual({node for node, need in needs.items() if need is not None}, set(table))
        for node, move in table.items():
            self.assertNotIn(stocked[node, needs[node]][None][move], short)
        self.assertIs(True, are_stocked(site, starts, size, table))
        enough = (start_of(site, starts), size) not in short
        least = least_size(site, starts)
        self.assertIs(enough, least is not None and least <= size)
        return sum(need is None for need in needs.values()), max([need for need in needs.values() if need is not None], default=None), least

    def test_example_of_the_document(self):
        needs = need_table(STAYING, ["a"], 2)
        told = [least_size(STAYING, ["a"]), needs[(("a", 0),), (0, 9)], needs[(("b", 0),), (1, 0)], len(needs)]
        self.assertEqual([2, 2, 1, 11], told)

    def test_small_ones(self):
        standing = start_of(ONE, ["a"])
        for size in (0, 1, 12):
            self.assertEqual({standing: 0}, need_table(ONE, ["a"], size))
            self.assertEqual({standing: ("a",)}, stock_table(site=ONE, size=size, starts=["a"]))
            self.assertEqual({}, short_times(ONE, ["a"], size))
        self.assertEqual(0, least_size(starts=["a"], site=ONE))
        self.assertEqual(0, least_size(ONE, ["a", "a"]))
        # Where one may stay at no place no store will do for ever; the time is how long it lasts.
        self.assertIsNone(least_size(LINE, ["a"]))
        self.assertEqual({None}, set(need_table(LINE, ["a"], 12).values()))
        self.assertEqual({}, stock_table(LINE, ["a"], 12))
        times = short_times(LINE, ["a"], 12)
        self.assertEqual(list(range(13)), [times[start_of(LINE, ["a"]), units] for units in range(13)])
        times = short_times(PAIR, ["a", "b"], 12)
        self.assertEqual([units // 2 for units in range(13)], [times[start_of(PAIR, ["a", "b"]), units] for units in range(13)])
        # A beginning that is lost: never NotKept.
        self.assertEqual({start_of(PAIR, ["a"]): None}, need_table(PAIR, ["a"], 12))
        self.assertEqual({(start_of(PAIR, ["a"]), units): 0 for units in range(13)}, short_times(PAIR, ["a"], 12))
        self.assertIsNone(least_size(TIGHT_LINE, ["a"]))
        self.assertEqual(0, least_size(Site.parse("a 0 stay\nb 0 stay -> a 1"), ["b", "a"]))

    def test_a_way_takes_what_it_has_in_steps(self):
        # Five units there and back; they are gained in five steps of rest at each end.
        self.assertEqual(3, least_size(LONG, ["a"]))
        self.assertEqual(2, need_table(LONG, ["a"], 4)[(("b", 2),), (1, 1)])
        # There and back without a rest at b: six units, which can't be gained in the steps that are left for it.
        self.assertIsNone(least_size(Site.parse("a 9 stay -> b 3\nb 9 -> a 3"), ["a"]))
        self.assertEqual(4, least_size(Site.parse("a 9 stay -> b 2\nb 9 -> a 2"), ["a"]))

    def test_by_the_words_of_points_25_and_26(self):
        told = []
        for number, (site, starts) in enumerate(NAMED + RANDOM + RESTING):
            for size in {0, 1 + number % 4, 12} if len(calm_graph(site, starts)) <= 40 else {number % 6, 12}:
                told.append(self.judge(site, starts, size))
        self.assertGreater(sum(0 == none and most not in (None, 0) for none, most, _ in told), 5)
        self.assertGreater(sum(none > 0 and most not in (None, 0) for none, most, _ in told), 5)
        self.assertGreater(len({least for _, _, least in told}), 4)

    def test_sizes_somewhat_beyond(self):
        for site, starts in (NAMED + RESTING)[::2]:
            for size in (13, 20):
                stocked = stocked_graph(site, starts, size)
                self.assertEqual(needs_by_point_26(stocked, size), need_table(site, starts, size))
                self.assertEqual(broken_times(stocked), short_times(site, starts, size))
                self.assertIs(True, are_stocked(site, starts, size, stock_table(site, starts, size)))
            for call in (need_table, stock_table, short_times):
                self.assertIsNone(raised(call, site, starts, -1))

    def test_as_large_as_may_be(self):
        for text, starts, standings, moves in SMALL_ENOUGH:
            site = Site.parse(text)
            self.assertEqual((standings, moves), size_of(site, starts, calm_graph(site, starts)))
            self.judge(site, starts, 5)

    def test_errors(self):
        for value in any_values() + [[], ["z"], ("a",), ["a", "b", "c"], ["a", 0]]:
            self.all_raise((BadStarts,), LINE, value)
            self.all_raise((BadStarts,), HUGE, value)
        for text, starts, standings, moves in TOO_LARGE + TOO_MANY_AT_FIRST:
            site = Site.parse(text)
            self.assertEqual((standings, moves), size_of(site, starts, calm_graph(site, starts)))
            self.all_raise((TooLarge,), site, starts)
        self.all_raise((TooLarge,), HUGE, ["a", "f"])
        self.all_raise(None, PAIR, ["a"])
        self.all_raise(None, NO_WAY_TO, ["a", "b"])

    def test_results_are_new(self):
        for site, starts in (NAMED + RESTING)[::3]:
            first = [call(site, starts, 4) for call in (need_table, stock_table, short_times)]
            kept, handed_in = copy.deepcopy(first), list(starts)
            for table in first:
                table.clear()
            least_size(site, starts)
            self.assertEqual(kept, [call(site, starts, 4) for call in (need_table, stock_table, short_times)])
            same = Site.parse(str(site))
            self.assertEqual(kept, [call(same, list(starts), 4) for call in (need_table, stock_table, short_times)])
            self.assertEqual(handed_in, starts)


class Tables(unittest.TestCase):
    GAMES = [(STAYING, ["a"], 2), (STAYING, ["a"], 5), (LONG, ["a"], 4), (STAYING, ["a", "b"], 3), (FAR_PAIR, ["a"], 12)]

    def refuses(self, case, table):
        before = copy.deepcopy(table)
        self.assertIs(False, are_stocked(*case, table), repr(table))
        self.assertEqual(before, table)

    def test_any_choice_of_moves(self):
        chance = random.Random(112)
        told = []
        for site, starts in NAMED + RESTING:
            size = chance.randint(0, 8)
            stocked = stocked_graph(site, starts, size)
            short = broken_times(stocked)
            needs = {node: need for node, need in needs_by_point_26(stocked, size).items() if need is not None}
            for _ in range(6):
                table = {}
                for node, need in needs.items():
                    good = [move for move, after in stocked[node, need][None].items() if after not in short]
                    table[node] = chance.choice(good if chance.random() < 0.97 else moves_from(site, node))
                right = all(stocked[node, needs[node]][None].get(move, None) not in short and move in stocked[node, needs[node]][None]
                            for node, move in table.items())
                self.assertIs(right, are_stocked(table=table, size=size, starts=starts, site=site))
                told.append(right and bool(table))
        self.assertGreater(min(sum(told), len(told) - sum(told)), 20)

    def test_keys(self):
        for case in self.GAMES:
            table = stock_table(*case)
            others = [node for node in calm_graph(*case[:2]) if node not in table]
            # Keys are compared by ==.
            self.assertIs(True, are_stocked(*case, {kinds_changed(node): move for node, move in table.items()}))
            for node in list(table)[::3]:
                without = {key: move for key, move in table.items() if key != node}
                self.refuses(case, without)
                self.assertIs(True, are_stocked(*case, {**without, kinds_changed(node): table[node]}))
                for key in (None, 0, "a", (), node[0], node + (0,), (node, 1), (node[0], node[1] + (0,)), deep_key(), *others[:3]):
                    self.refuses(case, {**without, key: table[node]})
                    self.refuses(case, {**table, key: table[node]})

    def test_moves(self):
        for case in self.GAMES:
            table = stock_table(*case)
            for node in list(table)[::4]:
                for value in any_values() + [list(table[node]), table[node] + (None,), table[node][0], [table[node]], ("z",)]:
                    self.refuses(case, {**table, node: value})

    def test_wrong_kinds(self):
        for case in self.GAMES:
            table = stock_table(*case)
            for value in any_values() + [list(table.items()), list(table), [table], (table,), need_table(*case)]:
                if value != table:
                    self.refuses(case, value)
        self.assertIs(True, are_stocked(LINE, ["a"], 12, {}))
        self.assertIs(False, are_stocked(ONE, ["a"], 0, {}))
        self.assertIs(True, are_stocked(ONE, ["a"], 0, {start_of(ONE, ["a"]): ("a",)}))


class Facts(unittest.TestCase):
    def test_facts_of_point_30(self):
        chance = random.Random(113)
        sizes = []
        for site, starts in NAMED + RANDOM + RESTING:
            least = least_size(site, starts)
            sizes.append(least)
            beginning = start_of(site, starts)
            needs = [need_table(site, starts, size)[beginning] for size in range(13)]
            self.assertEqual([least is not None and size >= least for size in range(13)], [need is not None for need in needs])
            if not any(site.stays):
                self.assertIsNone(least)
            if least is not None:
                self.assertTrue(is_kept(site, starts))
                self.assertLessEqual(Fraction(*least_toil(site, starts)), Fraction(len(starts), len(starts) + 1))
            wider = with_limits(site, [min(9, limit + chance.randint(0, 1)) for limit in site.limits])
            if least is not None and raised(least_size, wider, starts) is None:
                self.assertLessEqual(least_size(wider, starts), least)
                more, less = need_table(wider, starts, least), need_table(site, starts, least)
                self.assertTrue(all(more[node] is not None and more[node] <= need for node, need in less.items() if need is not None))
            if len(starts) == 1:
                self.assertEqual({least}, {least_size(site, [name]) for name in site.names if raised(least_size, site, [name]) is None})
                if raised(turned, site) is None and raised(least_size, turned(site), starts) is None:
                    self.assertEqual(least, least_size(turned(site), starts))
        self.assertGreater(len(set(sizes)), 4)
        self.assertGreater(sizes.count(None), 10)

    def test_what_is_needed_is_safe(self):
        for site, starts in NAMED + RESTING:
            safe = safe_table(site, starts)
            for size in (0, 3, 12):
                self.assertTrue(set(stock_table(site, starts, size)) <= set(safe))
            if longest_time(site, starts) is not None:
                self.assertIsNone(least_size(site, starts))


if __name__ == "__main__":
    unittest.main()
