"""Points 2, 3, 16, 17, 25, 26, 27, 29 and 30, with duewalk/watches.py."""

import copy
import random
import unittest

from anyvalues import any_values, nested
from duewalk.errors import BadMove, BadRequest, BadStarts, NoDeed, TooLarge, UnknownPlace
from duewalk.requests import Asking
from duewalk.sites import Site
from duewalk.stocked import least_size_asked, need_positions, stocked_walking
from duewalk.walks import moves_from, start_of
from duewalk.watches import Watch
from games import broken_times, position_graph, requests_of, step_behind, toil_by_point_23, told_by_history, tuples_of, with_units
from oracles import FAR_PAIR, LINE, ONE, PAIR, TIGHT_LINE, raised
from test_requests import HUGE, NONE_ASKED
from test_stocked import NAMED, RANDOM, RESTED, SLOW, SMALL_ENOUGH, TOO_LARGE
from test_stores import STAYING


def state(watch):
    return watch.position(), watch.units(), watch.deeds(), watch.toil(), watch.is_won()


class Watches(unittest.TestCase):
    def test_ordinary_steps(self):
        asking = Asking(["b"], 2, 4)
        watch = Watch(STAYING, ["a"], asking, 4)
        beginning = (start_of(STAYING, ["a"]), None, 0)
        self.assertEqual((beginning, 4, 0, 0, True), state(watch))
        self.assertEqual([None, None, None], [watch.step("b", ("a",)), watch.step(move=("b",), request=None), watch.step(None, ("a",))])
        self.assertEqual((((("a", 0),), (0, 1)), None, 1), watch.position())
        self.assertEqual((2, 3, 2), (watch.units(), watch.deeds(), watch.toil()))
        watch.step(None, ("a",))
        self.assertEqual((3, 4, 2), (watch.units(), watch.deeds(), watch.toil()))
        self.assertIn(watch.advice("b"), moves_from(STAYING, watch.position()[0]))
        self.assertIsNone(watch.back())
        self.assertEqual((2, 3, 2), (watch.units(), watch.deeds(), watch.toil()))
        for deeds in (2, 1, 0):
            watch.back()
            self.assertEqual(deeds, watch.deeds())
        self.assertEqual((beginning, 4, 0, 0, True), state(watch))
        self.assertEqual((NoDeed,), raised(watch.back))
        watch.step(None, ("a",))
        self.assertEqual((4, 1, 0), (watch.units(), watch.deeds(), watch.toil()))

    def test_full_and_empty_stores(self):
        watch = Watch(STAYING, ["a"], NONE_ASKED, 0)
        self.assertEqual([0, False, None], [watch.units(), watch.is_won(), watch.advice(None)])
        self.assertEqual((BadMove, 0), raised(watch.step, None, ("b",)))
        for wait in range(1, 10):
            watch.step(None, ("a",))
        self.assertEqual((0, 9, 0), (watch.units(), watch.deeds(), watch.toil()))
        self.assertEqual((BadMove, 0), raised(watch.step, None, ("a",)))
        watch = Watch(size=2, asking=NONE_ASKED, starts=["a"], site=STAYING)
        watch.step(None, ("a",))
        self.assertEqual(2, watch.units())
        watch.step(None, ("b",))
        self.assertEqual([1, True, ("a",)], [watch.units(), watch.is_won(), watch.advice(None)])
        watch.step(None, ("a",))
        self.assertEqual((0, 3, 2), (watch.units(), watch.deeds(), watch.toil()))
        self.assertEqual((BadMove, 0), raised(watch.step, None, ("b",)))
        self.assertEqual(("a",), watch.advice(None))
        # Two walkers that go off at once take two units.
        two = Watch(Site.parse("a 9 stay -> b 1\nb 9 stay -> a 1"), ["a", "b"], Asking(["a", "b"], 1, 1), 1)
        self.assertEqual((BadMove, 0), raised(two.step, "a", ("b", "a")))
        two.step("b", ("b", "b"))
        self.assertEqual((0, 1, 1, False), (two.units(), two.deeds(), two.toil(), two.is_won()))
        self.assertEqual([("b", "b"), None], [two.advice("b"), two.advice("a")])

    def test_no_fault_on_the_way_but_lost(self):
        watch = Watch(TIGHT_LINE, ["a"], NONE_ASKED, 12)
        self.assertEqual([False, None], [watch.is_won(), watch.advice(None)])
        for move in (("b",), ("c",), ("b",), ("a",)):
            watch.step(None, move)
        self.assertEqual((BadMove, 0), raised(watch.step, None, ("b",)))
        self.assertEqual((8, 4, 4, False), (watch.units(), watch.deeds(), watch.toil(), watch.is_won()))
        watch = Watch(PAIR, ["a"], NONE_ASKED, 12)
        self.assertEqual([False, None, (BadMove, 0)], [watch.is_won(), watch.advice(None), raised(watch.step, None, ("b",))])

    def judge(self, chance, site, starts, asking, graph, size, steps):
        """Plays by chance, and compares with what has been made at each moment."""
        stocked = with_units(graph, size, lambda position: position[0])
        broken = broken_times(stocked)
        watch = Watch(site, starts, asking, size)
        past = [((start_of(site, starts), None, 0), size, 0)]
        requests, moves = [], []
        told = []
        for _ in range(steps):
            position, units, toil = past[-1]
            won = (position, units) not in broken
            self.assertEqual((position, units, len(past) - 1, toil, won), state(watch))
            self.assertEqual(position, told_by_history(site, starts, asking, requests, moves)[1])
            for request in requests_of(asking, position):
                good = [move for move, after in stocked[position, units][request].items() if after not in broken]
                advice = watch.advice(request)
                self.assertTrue(advice in good if good else advice is None)
                told.append((won, bool(good)))
            if chance.random() < 0.15:
                self.assertEqual(None if len(past) > 1 else (NoDeed,), raised(watch.back))
                past, requests, moves = past[:-1] or past, requests[:-1], moves[:-1]
                continue
            request, move = chance.choice(requests_of(asking, position)), chance.choice(moves_from(site, position[0]))
            if won and chance.random() < 0.7:
                move = watch.advice(request)
            if move not in stocked[position, units][request]:
                self.assertEqual((BadMove, 0), raised(watch.step, request, move))
                told.append("refused")
                continue
            watch.step(request, move)
            after, left = stocked[position, units][request][move]
            past.append((after, left, toil + toil_by_point_23(position[0], move)))
            requests.append(request)
            moves.append(move)
        while len(past) > 1:
            watch.back()
            past.pop()
            self.assertEqual(past[-1] + (len(past) - 1,), (watch.position(), watch.units(), watch.toil(), watch.deeds()))
        self.assertEqual((NoDeed,), raised(watch.back))
        return told

    def test_by_the_words_of_point_29(self):
        chance = random.Random(140)
        told = []
        for site, starts, asking, graph in NAMED + RANDOM + RESTED:
            told.extend(self.judge(chance, site, starts, asking, graph, chance.choice((0, 1, 2, 3, 4, 6, 12)), 25))
        for each in ((True, True), (False, False), "refused"):
            self.assertGreater(told.count(each), 30, each)
        # One request may be lost, and another one not.
        self.assertIn((False, True), told)
        self.assertNotIn((True, False), told)

    def test_as_large_as_may_be(self):
        chance = random.Random(141)
        for text, starts, places, answer, pause, positions, tuples in SMALL_ENOUGH:
            site, asking = Site.parse(text), Asking(places, answer, pause)
            graph = position_graph(site, starts, asking)
            self.assertEqual((positions, tuples), (len(graph), tuples_of(site, graph)))
            self.judge(chance, site, starts, asking, graph, 4, 40)

    def test_sizes_somewhat_beyond(self):
        chance = random.Random(143)
        for site, starts, asking, graph in (NAMED + RESTED)[::5]:
            self.judge(chance, site, starts, asking, graph, 20, 10)
            self.assertIs(False, Watch(site, starts, asking, -1).is_won())

    def test_won_at_the_beginning_just_if_the_size_will_do(self):
        for site, starts, asking, _ in NAMED[::2] + RESTED:
            least = least_size_asked(site, starts, asking)
            for size in (0, 1, 2, 3, 5, 12):
                self.assertIs(least is not None and least <= size, Watch(site, starts, asking, size).is_won())

    def test_needs_and_tables_agree(self):
        chance = random.Random(142)
        for site, starts, asking, _ in RESTED[::3]:
            size = chance.randint(1, 8)
            needs, table = need_positions(site, starts, asking, size), stocked_walking(site, starts, asking, size)
            watch = Watch(site, starts, asking, size)
            for _ in range(20):
                need = needs[watch.position()]
                self.assertIs(need is not None and watch.units() >= need, watch.is_won())
                request = chance.choice(requests_of(asking, watch.position()))
                if not watch.is_won():
                    break
                watch.step(request, table[watch.position()][request] if watch.units() == need else watch.advice(request))

    def test_watches_by_turns(self):
        starts = ["a"]
        asking = Asking(["b"], 3, 8)
        first, second = Watch(SLOW, starts, asking, 4), Watch(SLOW, starts, asking, 4)
        starts.append("b")
        starts[0] = "z"
        first.step("b", ("b",))
        self.assertEqual(((start_of(SLOW, ["a"]), None, 0), 4, 0, 0, True), state(second))
        second.step(None, ("a",))
        first.step(None, (None,))
        first.back()
        second.step("b", ("b",))
        second.back()
        self.assertEqual((3, 1, 1), (first.units(), first.deeds(), first.toil()))
        self.assertEqual((4, 1, 0), (second.units(), second.deeds(), second.toil()))
        self.assertEqual([first.advice(None)] * 3, [first.advice(None) for _ in range(3)])
        self.assertEqual(first.position(), (((("b", 1),), (1, 1)), "b", 7))

    def test_many_steps(self):
        watch = Watch(STAYING, ["a"], Asking(["a", "b"], 4, 6), 12)
        self.assertTrue(watch.is_won())
        for number in range(600):
            request = "b" if watch.position()[2] == 0 and number % 2 else None
            watch.step(request, watch.advice(request))
            self.assertTrue(watch.is_won())
        self.assertEqual(600, watch.deeds())
        for _ in range(600):
            watch.back()
        self.assertEqual((12, 0, 0, True), state(watch)[1:])


class Refused(unittest.TestCase):
    def refused(self, error, watch, call, *values, **named):
        before, kept = state(watch), copy.deepcopy(values)
        self.assertEqual(error, raised(call, *values, **named), repr(values))
        self.assertEqual((before, kept), (state(watch), values))

    def test_no_watch(self):
        strange = Asking(["b", "x", "y"], 1, 1)
        for value in any_values() + [[], ["z"], ("a",), ["a", "b", "c"], ["a", 0]]:
            self.assertEqual((BadStarts,), raised(Watch, HUGE, value, strange, 3))
            self.assertEqual((BadStarts,), raised(Watch, site=LINE, starts=value, asking=NONE_ASKED, size=0))
        self.assertEqual((UnknownPlace, "x"), raised(Watch, HUGE, ["a", "f"], strange, 12))
        self.assertEqual((TooLarge,), raised(Watch, HUGE, ["a", "f"], NONE_ASKED, 12))
        for text, starts, places, answer, pause, _, _ in TOO_LARGE:
            self.assertEqual((TooLarge,), raised(Watch, Site.parse(text), starts, Asking(places, answer, pause), 1))

    def test_requests(self):
        watch = Watch(STAYING, ["a"], Asking(["b"], 2, 4), 6)
        for value in any_values() + ["a", "z", ["b"], ("b",), {"b": None}, ""]:
            if value is not None:
                for move in (("a",), ("b",), ("z",), None, nested(None, 50)):
                    self.refused((BadRequest, 0), watch, watch.step, value, move)
                self.refused((BadRequest, 0), watch, watch.advice, value)
                self.refused((BadRequest, 0), watch, watch.advice, request=value)
        watch.step("b", ("b",))
        for rest in (3, 2, 1):
            self.assertEqual(rest, watch.position()[2])
            self.refused((BadRequest, 0), watch, watch.step, "b", ("a",))
            self.refused((BadRequest, 0), watch, watch.step, "b", None)
            self.refused((BadRequest, 0), watch, watch.advice, "b")
            self.assertIsNotNone(watch.advice(None))
            watch.step(None, ("a",))
        watch.step("b", ("b",))
        self.assertEqual(5, watch.deeds())

    def test_moves(self):
        for site, starts in ((STAYING, ["a"]), (FAR_PAIR, ["a"]), (LINE, ["a", "c"]), (ONE, ["a"])):
            asking = Asking([site.names[-1]], 6, 7)
            watch = Watch(site, starts, asking, 12)
            for _ in range(3):
                moves = moves_from(site, watch.position()[0])
                for value in any_values() + [list(moves[0]), moves[0] + (None,), moves[0][0], (moves[0],), ("z",) * len(starts),
                                             (None, None, None), (True,), (0, 0)]:
                    if value not in moves:
                        self.refused((BadMove, 0), watch, watch.step, None, value)
                        self.refused((BadMove, 0), watch, watch.step, move=value, request=None)
                watch.step(None, moves[0])

    def test_bad_steps(self):
        # A breach, a request that is missed, and too few units.
        watch = Watch(Site.parse("a 1 -> b 1\nb 2 stay -> a 1"), ["a"], NONE_ASKED, 12)
        watch.step(None, ("b",))
        self.refused((BadMove, 0), watch, watch.step, None, ("b",))
        watch = Watch(Site.parse("a 9 stay -> b 1\nb 9 stay -> a 1"), ["a"], Asking(["b"], 2, 5), 1)
        self.refused((BadMove, 0), watch, watch.step, "b", ("z",))
        watch.step("b", ("a",))
        self.refused((BadMove, 0), watch, watch.step, None, ("a",))
        watch.step(None, ("b",))
        self.refused((BadMove, 0), watch, watch.step, None, ("a",))
        watch.step(None, ("b",))
        watch.step(None, ("a",))
        self.assertEqual((0, 4, 2), (watch.units(), watch.deeds(), watch.toil()))
        one = Watch(Site.parse("a 9 stay -> b 1\nb 9 stay -> a 1"), ["a"], Asking(["b"], 1, 5), 3)
        self.refused((BadMove, 0), one, one.step, "b", ("a",))
        self.assertEqual(("b",), one.advice("b"))
        one.step("b", ("b",))

    def test_back(self):
        watch = Watch(STAYING, ["a"], NONE_ASKED, 3)
        self.refused((NoDeed,), watch, watch.back)
        watch.step(None, ("b",))
        watch.back()
        self.refused((NoDeed,), watch, watch.back)

    def test_games_that_the_store_alone_loses(self):
        told = 0
        for site, starts, asking, graph in RESTED:
            for size in (0, 1):
                watch = Watch(site, starts, asking, size)
                position = watch.position()
                for request in requests_of(asking, position):
                    for move in moves_from(site, position[0]):
                        toil = toil_by_point_23(position[0], move)
                        after = step_behind(site, asking, position, request, move)
                        bad = after is None or toil > size
                        told += after is not None and toil > size
                        self.assertEqual((BadMove, 0) if bad else None, raised(watch.step, request, move))
                        if not bad:
                            self.assertEqual((after, size - toil), (watch.position(), watch.units()))
                            watch.back()
        self.assertGreater(told, 30)


if __name__ == "__main__":
    unittest.main()
