"""Points 2, 3, 16, 17, 18, 25, 26, 27 and 30, with duewalk/stocked.py."""

import copy
import random
import unittest

from anyvalues import any_values, deep_key, nested
from duewalk.errors import BadStarts, TooLarge, UnknownPlace
from duewalk.requests import Asking, is_won
from duewalk.sites import Site
from duewalk.stocked import (
    are_stocked_walking, least_size_asked, need_positions, stocked_requesting, stocked_walking)
from duewalk.stores import least_size, need_table
from duewalk.walks import moves_from, start_of
from games import (
    broken_times, few_positions, needs_by_point_26, position_graph, request_times, some_askings, tuples_of, with_units)
from oracles import CASES, FAR_PAIR, LINE, ONE, PAIR, WIDE_LINE, raised
from test_keeping import kinds_changed
from test_requests import HUGE, NONE_ASKED
from test_requests import TOO_LARGE as TOO_LARGE_AT_FIRST
from test_stores import LONG, RESTING, STAYING

# (text, starts, places, answer, pause, calm positions, tuples)
SMALL_ENOUGH = [
    ("a 8 -> b 1\nb 5 stay -> c 1\nc 8 stay", ["a"], ["c", "a"], 6, 11, 350, 502),
    ("a 3 -> b 1 c 2\nb 3 -> a 2 c 1\nc 4 -> a 3 b 2", ["c", "a"], ["c"], 3, 3, 350, 938),
    ("a 3 -> b 1 c 1 d 1\nb 2 stay -> a 1 c 1 d 1\nc 0 stay -> a 1 b 1 d 1\nd 2 -> a 1 b 1 c 1",
     ["b", "b"], ["c", "a"], 5, 11, 349, 6000),
]
TOO_LARGE = TOO_LARGE_AT_FIRST + [
    ("a 3 -> b 1 c 1\nb 7 -> a 1 c 1\nc 9 -> a 1 b 1", ["a"], ["b"], 6, 11, 351, 772),
    ("a 6 -> b 2\nb 2 stay -> a 3", ["b", "b"], ["b"], 1, 7, 351, 746),
]


SLOW = Site.parse("a 7 stay -> b 2\nb 7 stay -> a 2")


def resting_askings(seed, most_positions):
    """Tuples (site, starts, asking, graph of the positions) on sites with places to rest at."""
    chance = random.Random(seed)
    found = []
    for site, starts in RESTING:
        for _ in range(2):
            answer = chance.randint(1, 6)
            asking = Asking(chance.sample(site.names, chance.randint(0, 2) % (len(site.names) + 1)), answer, chance.randint(answer, 8))
            graph = few_positions(site, starts, asking, most_positions)
            if graph is not None:
                found.append((site, starts, asking, graph))
    return found


def named():
    cases = []
    for site, starts in CASES + [(STAYING, ["a"]), (STAYING, ["a", "b"]), (LONG, ["a"]), (LONG, ["a", "b"])]:
        for asking in (NONE_ASKED, Asking(list(site.names), 1, 3), Asking([site.names[-1]], 3, 6), Asking(list(site.names), 5, 5)):
            graph = few_positions(site, starts, asking, 120)
            if graph is not None:
                cases.append((site, starts, asking, graph))
    return cases


NAMED = named()
RANDOM = some_askings(120, 25, 3, 100)
RESTED = resting_askings(121, 130)


def stocked_graph(graph, size):
    return with_units(graph, size, lambda position: position[0])


class Stocked(unittest.TestCase):
    def all_raise(self, error, site, starts, asking):
        for size in (0, 12):
            for call in (need_positions, stocked_walking, stocked_requesting):
                self.assertEqual(error, raised(call, site, starts, asking, size), call.__name__)
            for value in (None, {}, nested({}, 49)):
                self.assertEqual(error, raised(are_stocked_walking, site, starts, asking, size, value))
        self.assertEqual(error, raised(least_size_asked, site, starts, asking))

    def judge(self, site, starts, asking, graph, size):
        stocked = stocked_graph(graph, size)
        times = request_times(stocked)
        broken = {node for node, row in times.items() if row}
        needs = needs_by_point_26(stocked, size)
        self.assertEqual(needs, need_positions(site, starts, asking, size))
        walking = stocked_walking(site, starts, asking, size)
        self.assertEqual({node for node, need in needs.items() if need is not None}, set(walking))
        for node, row in walking.items():
            self.assertEqual(set(graph[node]), set(row))
            self.assertFalse({stocked[node, needs[node]][request][move] for request, move in row.items()} & broken)
        self.assertIs(True, are_stocked_walking(site, starts, asking, size, walking))
        requesting = stocked_requesting(site, starts, asking, size)
        self.assertEqual(broken, set(requesting))
        for node, pair in requesting.items():
            self.assertIs(tuple, type(pair))
            self.assertEqual((times[node][pair[0]], min(times[node].values())), (pair[1], pair[1]))
        least = least_size_asked(site, starts, asking)
        self.assertIs(((start_of(site, starts), None, 0), size) not in broken, least is not None and least <= size)
        return least, len(broken), len(walking), max([time for _, time in requesting.values()], default=0)

    def test_small_ones(self):
        position = (start_of(ONE, ["a"]), None, 0)
        self.assertEqual({position: 0}, need_positions(ONE, ["a"], NONE_ASKED, 0))
        self.assertEqual({position: {None: ("a",)}}, stocked_walking(size=12, asking=NONE_ASKED, starts=["a"], site=ONE))
        self.assertEqual({}, stocked_requesting(ONE, ["a"], NONE_ASKED, 3))
        self.assertEqual(0, least_size_asked(ONE, ["a"], Asking(["a"], 1, 1)))
        self.assertIsNone(least_size_asked(asking=NONE_ASKED, site=LINE, starts=["a"]))
        lost = (start_of(PAIR, ["a"]), None, 0)
        self.assertEqual({lost: None}, need_positions(PAIR, ["a"], NONE_ASKED, 12))
        self.assertEqual({(lost, units): (None, 0) for units in range(13)}, stocked_requesting(PAIR, ["a"], NONE_ASKED, 12))
        # Each request takes a unit or two, and leaves time to gain them or not.
        site = Site.parse("a 9 stay -> b 1\nb 9 stay -> a 1")
        told = [least_size_asked(site, ["a"], Asking(["a", "b"], answer, pause)) for answer, pause in ((1, 1), (1, 2), (2, 2), (3, 3))]
        self.assertEqual([None, 2, 1, 1], told)
        self.assertEqual(1, least_size_asked(site, ["a"], NONE_ASKED))
        site = Site.parse("a 9 stay -> b 1\nb 9 -> a 1")
        told = [least_size_asked(site, ["a"], Asking(["b"], 2, pause)) for pause in (2, 3, 4, 5)]
        self.assertEqual([None, None, 4, 4], told)
        told = [least_size_asked(SLOW, ["a"], Asking(["b"], 3, pause)) for pause in (3, 7, 8, 9)]
        self.assertEqual([None, None, 4, 4], told)
        self.assertEqual([None, 4, 3, 2, 2], [least_size_asked(SLOW, ["b"], Asking(["b"], answer, 8)) for answer in (2, 3, 4, 5, 8)])
        for asking, size in ((Asking(["b"], 3, 8), 4), (Asking(["b"], 3, 8), 3), (Asking(["b"], 5, 6), 2)):
            self.judge(SLOW, ["a"], asking, position_graph(SLOW, ["a"], asking), size)
        self.judge(site, ["a"], Asking(["b"], 2, 4), position_graph(site, ["a"], Asking(["b"], 2, 4)), 4)

    def test_by_the_words_of_point_27(self):
        told = []
        for number, (site, starts, asking, graph) in enumerate(NAMED + RANDOM + RESTED):
            for size in {number % 5, 12} if len(graph) <= 60 else {number % 7}:
                told.append(self.judge(site, starts, asking, graph, size))
        self.assertGreater(len({least for least, *_ in told}), 4)
        self.assertGreater(sum(broken > 0 and walking > 0 for _, broken, walking, _ in told), 20)
        self.assertGreater(max(time for *_, time in told), 9)

    def test_sizes_somewhat_beyond(self):
        for site, starts, asking, graph in (NAMED + RESTED)[::5]:
            for size in (13, 20):
                stocked = stocked_graph(graph, size)
                self.assertEqual(needs_by_point_26(stocked, size), need_positions(site, starts, asking, size))
                self.assertEqual(set(broken_times(stocked)), set(stocked_requesting(site, starts, asking, size)))
                self.assertIs(True, are_stocked_walking(site, starts, asking, size, stocked_walking(site, starts, asking, size)))
            for call in (need_positions, stocked_walking, stocked_requesting):
                self.assertIsNone(raised(call, site, starts, asking, -1))

    def test_as_large_as_may_be(self):
        for text, starts, places, answer, pause, positions, tuples in SMALL_ENOUGH:
            site, asking = Site.parse(text), Asking(places, answer, pause)
            graph = position_graph(site, starts, asking)
            self.assertEqual((positions, tuples), (len(graph), tuples_of(site, graph)))
            self.judge(site, starts, asking, graph, 3)
            self.assertEqual(positions, len(need_positions(site, starts, asking, 12)))

    def test_errors(self):
        strange = Asking(["f", "x", "y"], 2, 2)
        for starts in any_values() + [[], ["z"], ("a",), ["a", "b", "c"], ["a", 0]]:
            self.all_raise((BadStarts,), HUGE, starts, strange)
            self.all_raise((BadStarts,), LINE, starts, NONE_ASKED)
        self.all_raise((UnknownPlace, "x"), HUGE, ["a", "f"], strange)
        self.all_raise((UnknownPlace, "d"), LINE, ["a"], Asking(["d"], 1, 1))
        for text, starts, places, answer, pause, positions, tuples in TOO_LARGE:
            site, asking = Site.parse(text), Asking(places, answer, pause)
            graph = position_graph(site, starts, asking)
            self.assertEqual((positions, tuples), (len(graph), tuples_of(site, graph)))
            self.all_raise((TooLarge,), site, starts, asking)
        self.all_raise((TooLarge,), HUGE, ["a", "f"], NONE_ASKED)
        self.all_raise(None, PAIR, ["a"], Asking(["b"], 1, 1))

    def test_results_are_new(self):
        calls = (need_positions, stocked_walking, stocked_requesting)
        for site, starts, asking, _ in (NAMED + RESTED)[::4]:
            first = [call(site, starts, asking, 3) for call in calls]
            kept, handed_in = copy.deepcopy(first), list(starts)
            for row in first[1].values():
                row.clear()
            for table in first:
                table.clear()
            self.assertEqual(kept, [call(site, starts, asking, 3) for call in calls])
            same = Asking(list(asking.places), asking.answer, asking.pause)
            self.assertEqual(kept, [call(Site.parse(str(site)), list(starts), same, 3) for call in calls])
            self.assertEqual(handed_in, starts)

    def test_facts_of_point_30(self):
        for site, starts, asking, graph in NAMED + RANDOM + RESTED:
            least = least_size_asked(site, starts, asking)
            beginning = (start_of(site, starts), None, 0)
            needs = [need_positions(site, starts, asking, size)[beginning] for size in (0, 1, 2, 3, 5, 8, 12)]
            self.assertEqual([least is not None and size >= least for size in (0, 1, 2, 3, 5, 8, 12)], [need is not None for need in needs])
            if least is not None:
                self.assertTrue(is_won(site, starts, asking))
                self.assertLessEqual(least_size(site, starts), least)
            if len(starts) == 1:
                others = [name for name in site.names if raised(least_size_asked, site, [name], asking) is None]
                self.assertEqual({least}, {least_size_asked(site, [name], asking) for name in others})
            if not asking.places:
                self.assertEqual(least_size(site, starts), least)
                plain = {(node, None, 0): need for node, need in need_table(site, starts, 5).items()}
                self.assertEqual(plain, need_positions(site, starts, asking, 5))


class Tables(unittest.TestCase):
    GAMES = [(STAYING, ["a"], Asking(["b"], 2, 5), 4), (STAYING, ["a", "b"], Asking(["a"], 3, 4), 2), (ONE, ["a"], Asking(["a"], 1, 3), 0),
             (WIDE_LINE, ["a"], Asking(["c"], 2, 3), 12), (SLOW, ["b"], Asking(["b"], 3, 8), 4), (FAR_PAIR, ["a", "a"], NONE_ASKED, 5)]

    def refuses(self, case, table):
        before = copy.deepcopy(table)
        self.assertIs(False, are_stocked_walking(*case, table), repr(table))
        self.assertEqual(before, table)

    def test_any_choice_of_moves(self):
        chance = random.Random(122)
        told = []
        for site, starts, asking, graph in NAMED + RESTED:
            size = chance.randint(0, 6)
            stocked = stocked_graph(graph, size)
            broken = broken_times(stocked)
            needs = {node: need for node, need in needs_by_point_26(stocked, size).items() if need is not None}
            for _ in range(4):
                table, right = {}, True
                for node, need in needs.items():
                    table[node] = {}
                    for request, moves in stocked[node, need].items():
                        good = [move for move, after in moves.items() if after not in broken]
                        move = chance.choice(good if chance.random() < 0.98 else moves_from(site, node[0]))
                        right = right and move in good
                        table[node][request] = move
                self.assertIs(right, are_stocked_walking(table=table, size=size, asking=asking, starts=starts, site=site))
                told.append(right and bool(table))
        self.assertGreater(min(sum(told), len(told) - sum(told)), 20)

    def test_keys(self):
        for case in self.GAMES:
            table = stocked_walking(*case)
            others = [node for node in position_graph(*case[:3]) if node not in table]
            changed = {kinds_changed(node): row for node, row in table.items()}
            self.assertIs(True, are_stocked_walking(*case, changed))
            for node in list(table)[::len(table) // 6 + 1]:
                without = {key: row for key, row in table.items() if key != node}
                self.refuses(case, without)
                self.assertIs(True, are_stocked_walking(*case, {**without, kinds_changed(node): table[node]}))
                for key in (None, 0, "a", (), node[0], node + (0,), (node, 1), (*node[:2], 13), (node[0], "zz", node[2]), deep_key(),
                            *others[:3]):
                    self.refuses(case, {**without, key: table[node]})
                    self.refuses(case, {**table, key: table[node]})

    def test_rows(self):
        for case in self.GAMES:
            table = stocked_walking(*case)
            for node in list(table)[::len(table) // 4 + 1]:
                row = table[node]
                for value in any_values() + [list(row.items()), tuple(row.items()), list(row), [row], {**row, "zz": ("a",)}, row[None],
                                             {**row, False: row[None]}, {(): row[None]}]:
                    self.refuses(case, {**table, node: value})
                for request, move in row.items():
                    self.refuses(case, {**table, node: {key: told for key, told in row.items() if key != request}})
                    for value in any_values() + [list(move), move + (None,), move[0], [move], (move,), ("zz",) * len(move)]:
                        self.refuses(case, {**table, node: {**row, request: value}})

    def test_wrong_kinds(self):
        for case in self.GAMES:
            table = stocked_walking(*case)
            for value in any_values() + [list(table.items()), list(table), [table], (table,), need_positions(*case)]:
                if value != table:
                    self.refuses(case, value)
        self.assertIs(True, are_stocked_walking(LINE, ["a"], NONE_ASKED, 12, {}))
        self.assertIs(False, are_stocked_walking(ONE, ["a"], NONE_ASKED, 0, {}))


if __name__ == "__main__":
    unittest.main()
