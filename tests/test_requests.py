"""Points 2, 3, 16, 17, 18 and 22, with duewalk/requests.py."""

import copy
import random
import unittest

from anyvalues import any_values, deep_key, nested
from duewalk.errors import BadAsking, BadStarts, TooLarge, UnknownPlace
from duewalk.keeping import safe_table
from duewalk.requests import (
    Asking, are_requesting, are_walking, calm_positions, is_won, requesting_table, walking_table)
from duewalk.sites import Site
from duewalk.walks import moves_from, start_of
from games import (
    are_allowed, broken_times, position_graph, request_times, requests_of, some_asking, some_askings, step_behind,
    told_by_history, tuples_of)
from test_keeping import kinds_changed
from oracles import CASES, FAR_PAIR, LINE, NO_WAY_TO, ONE, PAIR, TIGHT_LINE, WIDE_LINE, raised, some_site

STAYING = Site.parse("a 9 stay -> b 1\nb 9 stay -> a 1")
SQUARE = Site.parse("a 4 stay -> b 1 c 1\nb 4 stay -> a 1 c 1\nc 4 stay -> a 1 b 1")
# (text, starts, places, answer, pause, calm positions, tuples)
SMALL_ENOUGH = [
    ("a 4 -> d 1\nb 6 -> a 1 c 1 d 1\nc 6 stay -> a 1 d 1\nd 5 -> a 1 b 1 c 1", ["a"], ["d", "b", "c"], 3, 8, 1000, 2853),
    ("a 4 -> b 1 c 1 d 1\nb 5 stay\nc 3 stay -> a 1\nd 9 stay -> b 1", ["a", "d"], ["c", "b"], 7, 12, 1000, 2742),
    ("a 6 -> b 1 c 1\nb 5 stay -> a 1 c 1\nc 3 stay -> a 1 b 1", ["c", "a"], ["a", "b", "c"], 1, 6, 499, 6000),
    ("a 3 -> b 1 c 1 d 1\nb 2 stay -> a 1 c 1 d 1\nc 0 stay -> a 1 b 1 d 1\nd 2 -> a 1 b 1 c 1",
     ["b", "b"], ["c", "a"], 5, 11, 349, 6000),
]
TOO_LARGE = [
    ("a 5 stay -> b 2 c 1\nb 7 stay\nc 8 stay -> b 1", ["a"], ["a", "b", "c"], 8, 9, 1001, 1854),
    ("a 5 -> b 1\nb 4 -> a 2 c 1\nc 3 -> a 3 b 2", ["c", "a"], ["c"], 4, 10, 1001, 2006),
    ("a 3 -> b 1 c 1\nb 1 -> c 1 d 1 e 1\nc 3 -> b 1 d 1 e 1\nd 2 -> a 1 b 1 c 1 e 1\ne 1 -> c 1 d 1",
     ["b", "a"], ["b", "e", "c"], 9, 11, 508, 6001),
]
HUGE = Site.parse("\n".join(
    f"{name} 9 stay -> " + " ".join(f"{end} 3" for end in "abcdef" if end != name) for name in "abcdef"))
WITHOUT_A_VALUE = [calm_positions, is_won, walking_table, requesting_table]
WITH_A_VALUE = [are_walking, are_requesting]
NONE_ASKED = Asking([], 1, 1)


def some_named():
    cases = []
    for site, starts in CASES:
        for places, answer, pause in (([], 1, 1), (list(site.names), 1, 1), (list(site.names), 2, 4), ([site.names[-1]], 4, 4)):
            asking = Asking(places, answer, pause)
            cases.append((site, starts, asking, position_graph(site, starts, asking)))
    return [case for case in cases if len(case[3]) <= 250 and tuples_of(case[0], case[3]) <= 6000]


NAMED = some_named()
RANDOM = some_askings(70, 60)


class Askings(unittest.TestCase):
    def test_attributes(self):
        places = ["b", "a", "whatever"]
        asking = Asking(places, 3, 12)
        places.clear()
        self.assertEqual((("b", "a", "whatever"), 3, 12), (asking.places, asking.answer, asking.pause))
        self.assertIs(tuple, type(asking.places))
        other = Asking(pause=1, places=[], answer=1)
        self.assertEqual(((), 1, 1), (other.places, other.answer, other.pause))
        six = Asking(list("fedcba"), answer=9, pause=12)
        self.assertEqual((tuple("fedcba"), 9, 12), (six.places, six.answer, six.pause))
        self.assertEqual(("zzzzzzzz",), Asking(["zzzzzzzz"], 9, 9).places)

    def test_equal(self):
        asking = Asking(["a", "b"], 2, 3)
        self.assertIs(True, asking == Asking(["a", "b"], 2, 3))
        self.assertIs(False, asking != Asking(["a", "b"], 2, 3))
        for other in (Asking(["b", "a"], 2, 3), Asking(["a"], 2, 3), Asking(["a", "b"], 1, 3), Asking(["a", "b"], 2, 4),
                      (("a", "b"), 2, 3), ["a", "b"], LINE, NONE_ASKED, *any_values()):
            self.assertIs(False, asking == other)
            self.assertIs(True, asking != other)
            self.assertIs(False, other == asking)

    def test_none(self):
        odd = any_values() + [["a", "a"], ("a", "b"), "ab", {"a": 1}, list("abcdefg"), ["A"], ["a1"], [""], ["a "], ["\xe4"],
                              ["toolongname"], ["a", None], ["a", 1], [["a"]], [("a",)], ["a", "b", "a"], [True]]
        for value in odd:
            if value != []:
                self.assertEqual((BadAsking,), raised(Asking, value, 1, 1), repr(value))
                self.assertEqual((BadAsking,), raised(Asking, places=value, answer=0, pause=99))
        for value in any_values():
            if not (type(value) is int and 1 <= value <= 3):
                self.assertEqual((BadAsking,), raised(Asking, ["a"], value, 3), repr(value))
            if not (type(value) is int and 1 <= value <= 12):
                self.assertEqual((BadAsking,), raised(Asking, ["a"], 1, value), repr(value))
        for answer, pause in ((0, 1), (10, 10), (10, 12), (-1, 3), (1, 13), (9, 13), (2, 1), (9, 8), (1, 0), (True, 2), (1, True),
                              ("1", 1), (1, "1"), ([1], 1), (1, (2,)), (None, None), (1.0, 2), (1, 2.0)):
            self.assertEqual((BadAsking,), raised(Asking, ["a"], answer, pause), (answer, pause))
        for answer, pause in ((1, 1), (9, 9), (9, 12), (1, 12), (5, 7)):
            self.assertIsNone(raised(Asking, ["a"], answer, pause))


class Oracle(unittest.TestCase):
    def test_steps_agree_with_what_point_16_says_of_whole_lists(self):
        chance = random.Random(71)
        bad = missed = 0
        for _ in range(1500):
            site = some_site(chance, chance.randint(1, 3))
            starts = [chance.choice(site.names) for _ in range(chance.choice((1, 2)))]
            asking = some_asking(chance, site)
            position = start_of(site, starts), None, 0
            requests, moves = [], []
            for _ in range(25):
                request = chance.choice(requests_of(asking, position))
                move = chance.choice(moves_from(site, position[0]))
                for place in site.names:
                    self.assertIs(place in requests_of(asking, position), are_allowed(asking, requests + [place]))
                requests.append(request)
                moves.append(move)
                index, told = told_by_history(site, starts, asking, requests, moves)
                position = step_behind(site, asking, position, request, move)
                if position is None:
                    self.assertEqual(len(moves) - 1, index)
                    bad += 1
                    missed += max(told[0][1]) <= min(site.limits)
                    break
                self.assertIsNone(index)
                self.assertEqual(told, position)
        self.assertGreater(bad, 500)
        self.assertGreater(missed, 50)


class Positions(unittest.TestCase):
    def refused(self, error, site, starts, asking):
        for call in WITHOUT_A_VALUE:
            self.assertEqual(error, raised(call, site, starts, asking), (call.__name__, starts))
        for call in WITH_A_VALUE:
            for value in ({}, None, nested({}, 49)):
                self.assertEqual(error, raised(call, site, starts, asking, value), (call.__name__, starts))

    def test_examples_of_the_document(self):
        self.assertIs(False, is_won(WIDE_LINE, ["a"], Asking(["c"], 2, 2)))
        self.assertIs(True, is_won(site=WIDE_LINE, starts=["a"], asking=Asking(["c"], 2, 3)))

    def test_small_ones(self):
        beginning = start_of(ONE, ["a"]), None, 0
        self.assertEqual([beginning], calm_positions(ONE, ["a"], NONE_ASKED))
        # Staying answers at once, so that only the rest tells what was requested.
        positions = calm_positions(asking=Asking(["a"], 1, 3), starts=["a"], site=ONE)
        self.assertEqual({(beginning[0], None, rest) for rest in range(3)}, set(positions))
        # The one that stood there when it was made does not answer.
        out = Site.parse("a 9 -> b 1\nb 9 -> a 1")
        self.assertIs(False, is_won(out, ["a"], Asking(["a"], 1, 12)))
        self.assertIs(True, is_won(out, ["a"], Asking(["a"], 2, 2)))
        self.assertIs(True, is_won(STAYING, ["a"], Asking(["a"], 2, 2)))
        # From a way of three steps an answer may take six.
        slow = Site.parse("a 9 -> b 3\nb 9 -> a 3")
        self.assertEqual([False, True], [is_won(slow, ["a"], Asking(["a", "b"], answer, 12)) for answer in (5, 6)])
        self.assertEqual([False, True], [is_won(slow, ["a", "b"], Asking(["b"], answer, 9)) for answer in (2, 3)])
        self.assertEqual([False, True], [is_won(slow, ["a", "b"], Asking(["b"], answer, answer)) for answer in (2, 3)])
        # A place to which no way leads.
        self.assertIs(False, is_won(Site.parse("a 9 -> b 1\nb 9 stay"), ["b"], Asking(["a"], 9, 12)))
        self.assertIs(True, is_won(Site.parse("a 0 stay\nb 0 stay"), ["a", "b"], Asking(["b", "a"], 1, 1)))

    def test_open_ones(self):
        asking = Asking(["a", "b"], 3, 4)
        positions = calm_positions(FAR_PAIR, ["a"], asking)
        self.assertEqual(set(position_graph(FAR_PAIR, ["a"], asking)), set(positions))
        self.assertIn((((("b", 2),), (1, 1)), "a", 3), positions)
        self.assertIn((((("b", 2),), (1, 1)), "b", 3), positions)
        self.assertIn((((("b", 2),), (1, 1)), None, 0), positions)
        self.assertIn((((("b", 0),), (3, 0)), None, 1), positions)
        self.assertTrue(all(asked is None or rest >= 2 for _, asked, rest in positions))

    def judge(self, site, starts, asking, graph):
        times = request_times(graph)
        broken = {node for node, row in times.items() if row}
        positions = calm_positions(site, starts, asking)
        self.assertIs(list, type(positions))
        self.assertEqual(len(graph), len(positions))
        self.assertEqual(set(graph), set(positions))
        beginning = (start_of(site, starts), None, 0)
        self.assertIs(beginning not in broken, is_won(site, starts, asking))
        walking = walking_table(site, starts, asking)
        self.assertEqual(set(graph) - broken, set(walking))
        for node, row in walking.items():
            self.assertEqual(set(graph[node]), set(row))
            self.assertFalse({graph[node][request][move] for request, move in row.items()} & broken)
        requesting = requesting_table(site, starts, asking)
        self.assertEqual(broken, set(requesting))
        for node, pair in requesting.items():
            self.assertIs(tuple, type(pair))
            self.assertEqual((times[node][pair[0]], min(times[node].values())), (pair[1], pair[1]))
        self.assertIs(True, are_walking(site, starts, asking, walking))
        self.assertIs(True, are_requesting(site, starts, asking, requesting))
        return beginning in broken, len(starts), bool(broken), bool(walking), max(requesting.values(), key=lambda p: p[1], default=0)

    def test_by_the_words_of_point_18(self):
        told = [self.judge(*case) for case in NAMED + RANDOM]
        for many in (1, 2):
            self.assertLessEqual({(True, many, True, False), (False, many, False, True), (False, many, True, True)},
                                 {row[:4] for row in told})
        self.assertGreater(max(row[4][1] for row in told if row[4]), 6)

    def test_long_pauses_and_answers(self):
        for answer, pause in ((1, 1), (1, 12), (9, 9), (9, 12), (4, 11)):
            for site, starts in ((PAIR, ["a", "b"]), (ONE, ["a"]), (LINE, ["a"]), (STAYING, ["b"])):
                asking = Asking(list(site.names), answer, pause)
                graph = position_graph(site, starts, asking)
                if len(graph) <= 400:
                    self.judge(site, starts, asking, graph)

    def test_nothing_to_be_requested_is_as_point_10(self):
        for site, starts in CASES:
            for asking in (NONE_ASKED, Asking([], 9, 12)):
                walking = walking_table(site, starts, asking)
                self.assertEqual({(node, None, 0) for node in safe_table(site, starts)}, set(walking))
                for row in walking.values():
                    self.assertEqual([None], list(row))

    def test_as_large_as_may_be(self):
        for text, starts, places, answer, pause, positions, tuples in SMALL_ENOUGH:
            site, asking = Site.parse(text), Asking(places, answer, pause)
            graph = position_graph(site, starts, asking)
            self.assertEqual((positions, tuples), (len(graph), tuples_of(site, graph)))
            self.judge(site, starts, asking, graph)

    def test_too_large(self):
        for text, starts, places, answer, pause, positions, tuples in TOO_LARGE:
            site, asking = Site.parse(text), Asking(places, answer, pause)
            graph = position_graph(site, starts, asking)
            self.assertEqual((positions, tuples), (len(graph), tuples_of(site, graph)))
            self.refused((TooLarge,), site, starts, asking)
        self.refused((TooLarge,), HUGE, ["a", "f"], Asking(list("fa"), 9, 12))
        self.refused((TooLarge,), HUGE, ["a"], NONE_ASKED)

    def test_order_of_the_errors(self):
        strange = Asking(["f", "x", "y"], 2, 2)
        for starts in any_values() + [[], ["z"], ("a",), ["a", "b", "c"], ["a", 0]]:
            self.refused((BadStarts,), HUGE, starts, strange)
            self.refused((BadStarts,), LINE, starts, NONE_ASKED)
        self.refused((UnknownPlace, "x"), HUGE, ["a", "f"], strange)
        self.refused((UnknownPlace, "y"), HUGE, ["a"], Asking(["a", "y", "b", "x"], 1, 12))
        self.refused((UnknownPlace, "d"), LINE, ["a"], Asking(["d"], 1, 1))

    def test_results_are_new(self):
        for site, starts, asking, _ in NAMED[:12] + RANDOM[:12]:
            first = [call(site, starts, asking) for call in WITHOUT_A_VALUE]
            kept = copy.deepcopy(first)
            first[0].clear()
            for row in first[2].values():
                row.clear()
            first[2].clear()
            first[3].clear()
            self.assertEqual(kept, [call(site, starts, asking) for call in WITHOUT_A_VALUE])
            same = Asking(list(asking.places), asking.answer, asking.pause)
            self.assertEqual(kept, [call(Site.parse(str(site)), list(starts), same) for call in WITHOUT_A_VALUE])
            self.assertTrue(asking == same)

    def test_by_turns(self):
        cases = [(site, starts, asking) for site, starts, asking, _ in RANDOM[:6]]
        alone = [[call(*case) for call in WITHOUT_A_VALUE] for case in cases]
        by_turns = [[call(*case) for case in cases] for call in WITHOUT_A_VALUE]
        self.assertEqual(alone, [list(column) for column in zip(*by_turns)])


class Tables(unittest.TestCase):
    GAMES = [(WIDE_LINE, ["a"], Asking(["c"], 2, 3)), (LINE, ["a"], Asking(["c"], 3, 3)), (FAR_PAIR, ["a"], Asking(["b"], 6, 7)),
             (SQUARE, ["a"], Asking(["b"], 1, 3)), (NO_WAY_TO, ["a", "b"], Asking(["b"], 1, 2)), (TIGHT_LINE, ["b", "c"], Asking(["b"], 2, 2))]

    def refuses(self, call, case, table):
        before = copy.deepcopy(table)
        self.assertIs(False, call(*case, table), (call.__name__, repr(table)))
        self.assertEqual(before, table)

    def test_empty_ones(self):
        self.assertIs(True, are_walking(PAIR, ["a"], NONE_ASKED, {}))
        self.assertIs(False, are_walking(ONE, ["a"], NONE_ASKED, {}))
        self.assertIs(True, are_requesting(ONE, ["a"], NONE_ASKED, {}))
        self.assertIs(False, are_requesting(PAIR, ["a"], NONE_ASKED, {}))
        beginning = (start_of(PAIR, ["a"]), None, 0)
        self.assertIs(True, are_requesting(table={beginning: (None, 0)}, asking=NONE_ASKED, site=PAIR, starts=["a"]))

    def test_any_choice_of_moves(self):
        chance = random.Random(72)
        told = []
        for site, starts, asking, graph in RANDOM:
            broken = broken_times(graph)
            for _ in range(6):
                table = {}
                for node in graph:
                    if node not in broken:
                        table[node] = {}
                        for request, moves in graph[node].items():
                            right = [move for move, after in moves.items() if after not in broken]
                            table[node][request] = chance.choice(right if chance.random() < 0.9 else moves_from(site, node[0]))
                right = all(graph[node][request].get(move, node) not in broken and move in graph[node][request]
                            for node, row in table.items() for request, move in row.items())
                self.assertIs(right, are_walking(site, starts, asking, table))
                told.append(right and bool(table))
        self.assertGreater(min(sum(told), len(told) - sum(told)), 30)

    def test_any_choice_of_requests(self):
        chance = random.Random(73)
        told = []
        for site, starts, asking, graph in RANDOM:
            times = request_times(graph)
            for _ in range(6):
                table = {}
                for node, row in times.items():
                    if row:
                        request = chance.choice(sorted(row, key=str) if chance.random() < 0.9 else list(graph[node]))
                        time = min(row.values()) if chance.random() < 0.97 else row.get(request, 3)
                        table[node] = (request, time)
                right = all(times[node].get(request) == time == min(times[node].values())
                            for node, (request, time) in table.items())
                self.assertIs(right, are_requesting(site, starts, asking, table))
                told.append(right and bool(table))
        self.assertGreater(min(sum(told), len(told) - sum(told)), 30)

    def test_wrong_keys(self):
        for case in self.GAMES:
            for make, call in ((walking_table, are_walking), (requesting_table, are_requesting)):
                table = make(*case)
                other = {walking_table: requesting_table, requesting_table: walking_table}[make](*case)
                for node in list(table)[::len(table) // 6 + 1]:
                    told = table[node]
                    without = {key: value for key, value in table.items() if key != node}
                    self.refuses(call, case, without)
                    standing, asked, rest = node
                    for key in (standing, (standing, asked), (standing, asked, rest + 12), (standing, "zz", rest), (standing, asked, -1),
                                (standing, asked, rest, None), node[:2] + ("0",), ((standing[0], ()), asked, rest), None, 0, "a", (),
                                (None, None, 0), ((), None, 0), deep_key(), *list(other)[:3]):
                        if key not in without:
                            self.refuses(call, case, {**without, key: told})
                    if rest in (0, 1):
                        self.refuses(call, case, {**without, (standing, asked, bool(rest)): told})
                    self.refuses(call, case, {**without, (kinds_changed(standing), asked, rest): told})
                    self.refuses(call, case, {**without, (standing, deep_key(), rest): told})
                    for key in [*list(other)[:2], None, 7, (standing, asked, 99)]:
                        self.refuses(call, case, {**table, key: told})

    def test_wrong_moves(self):
        for case in self.GAMES:
            table = walking_table(*case)
            for node in list(table)[::len(table) // 4 + 1]:
                row = table[node]
                for value in any_values() + [list(row.items()), tuple(row.items()), list(row), [row], {**row, "zz": ("a",)},
                                             {**row, False: row[None]}, {(): row[None]}]:
                    self.refuses(are_walking, case, {**table, node: value})
                for request, move in row.items():
                    self.refuses(are_walking, case, {**table, node: {key: told for key, told in row.items() if key != request}})
                    for value in any_values() + [list(move), move + (None,), move[0], [move], (move,), ("zz",) * len(move)]:
                        self.refuses(are_walking, case, {**table, node: {**row, request: value}})

    def test_wrong_pairs(self):
        for case in self.GAMES:
            table = requesting_table(*case)
            for node in list(table)[::len(table) // 4 + 1]:
                request, time = table[node]
                for value in any_values() + [[request, time], (request,), (request, time, 0), (time, request), (request, time + 1),
                                             (request, time - 1), (request, str(time)), (request, None), ("zz", time), ([], time),
                                             ({}, time), (request, [time]), (nested(request, 40), time), (False, time)]:
                    self.refuses(are_requesting, case, {**table, node: value})
                if time in (0, 1):
                    self.refuses(are_requesting, case, {**table, node: (request, bool(time))})

    def test_wrong_kinds(self):
        for case in self.GAMES:
            for make, call in ((walking_table, are_walking), (requesting_table, are_requesting)):
                table = make(*case)
                for value in any_values() + [list(table.items()), list(table), [table], (table,), tuple(table.items())]:
                    if value != table:
                        self.refuses(call, case, value)


if __name__ == "__main__":
    unittest.main()
