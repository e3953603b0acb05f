"""Points 2, 3, 6, 7, 8, 21 and 22, with duewalk/sessions.py."""

import copy
import random
import unittest

from anyvalues import any_values, nested
from duewalk.errors import BadLimit, BadMove, BadStarts, BadWay, NoDeed, TooLarge, TooManyWalkers, UnknownPlace
from duewalk.keeping import longest_time
from duewalk.sessions import Session
from duewalk.sites import Site, with_limits
from duewalk.walks import has_breach, moves_from, start_of, stepped
from oracles import CASES, FAR_PAIR, LINE, ONE, PAIR, TIGHT_LINE, raised, some_cases, some_site
from test_keeping import SMALL_ENOUGH
from test_keeping import TOO_LARGE as TOO_LARGE_AT_FIRST

HUGE = Site.parse("\n".join(
    f"{name} 9 stay -> " + " ".join(f"{end} 3" for end in "abcdef" if end != name) for name in "abcdef"))
RANDOM = some_cases(90, 40, 3, 300)


class Model:
    """A session by the words of point 21, told by plain dicts; walkers on shut ways go on."""

    def __init__(self, site, starts):
        self.names = site.names
        self.limits = dict(zip(site.names, site.limits))
        self.stays = dict(zip(site.names, site.stays))
        self.ways = {name: dict(ways) for name, ways in zip(site.names, site.ways)}
        self.walkers = [(name, 0) for name in starts]
        self.waits = {name: 0 for name in site.names}

    def text(self):
        rows = []
        for name in self.names:
            ways = "".join(f" {end} {steps}" for end, steps in sorted(self.ways[name].items()))
            rows.append(f"{name} {self.limits[name]}" + " stay" * self.stays[name] + " ->" * bool(ways) + ways)
        return "\n".join(rows)

    def standing(self):
        return tuple(self.walkers), tuple(self.waits[name] for name in self.names)

    def moves(self):
        choices = [[None] if left else [place] * self.stays[place] + list(self.ways[place]) for place, left in self.walkers]
        moves = [()]
        for ends in choices:
            moves = [move + (end,) for move in moves for end in ends]
        return moves

    def move(self, move):
        for at, end in enumerate(move):
            place, left = self.walkers[at]
            if left:
                self.walkers[at] = place, left - 1
            elif end != place:
                self.walkers[at] = end, self.ways[place][end] - 1
        for name in self.names:
            self.waits[name] = 0 if (name, 0) in self.walkers else self.waits[name] + 1

    def has_breach(self):
        return any(self.waits[name] > self.limits[name] for name in self.names)

    def behind(self):
        """For each move from now the model behind it, None if the move is bad."""
        told = {}
        for move in self.moves():
            other = copy.deepcopy(self)
            other.move(move)
            told[move] = None if other.has_breach() else other
        return told

    def lookahead(self, most):
        """(standings, moves, longest, freedom) by points 10 and 21; None for the first two stands for too many."""
        graph, models, bad = {}, {self.standing(): self}, {}
        waiting = [self.standing()]
        many = 0
        while waiting:
            node = waiting.pop()
            if node in graph:
                continue
            behind = models[node].behind()
            many += len(behind)
            bad[node] = None in behind.values()
            graph[node] = [model.standing() for model in behind.values() if model is not None]
            for model in behind.values():
                if model is not None:
                    models.setdefault(model.standing(), model)
            waiting.extend(graph[node])
            if len(graph) > most:
                return None
        times = {}
        changed = True
        while changed:
            changed = False
            for node, ends in graph.items():
                if node not in times and all(end in times for end in ends):
                    times[node] = max([times[end] + 1 for end in ends], default=0)
                    changed = True
        return len(graph), many, times.get(self.standing()), self.freedom(graph, times, bad)

    def freedom(self, graph, times, bad):
        reached, moves, seen = {self.standing()}, 0, set()
        while reached:
            if any(node in times for node in reached):
                return moves
            moves += 1
            if any(bad[node] for node in reached):
                return moves
            seen |= reached
            reached = {end for node in reached for end in graph[node]} - seen
        return None


class Sessions(unittest.TestCase):
    def same(self, model, session, deeds):
        self.assertEqual((model.text(), model.standing(), deeds), (str(session.site()), session.standing(), session.deeds()))

    def state(self, session):
        return str(session.site()), session.standing(), session.deeds()

    def test_example_of_the_document(self):
        session = Session(LINE, ["a"])
        told = [session.is_kept(), session.freedom(), session.move(("b",)), session.standing(), session.deeds()]
        self.assertEqual([True, 4, None, ((('b', 0),), (1, 0, 1)), 1], told)

    def test_at_the_beginning(self):
        starts = ["c", "a"]
        session = Session(starts=starts, site=LINE)
        starts.clear()
        self.assertTrue(session.site() == LINE)
        self.assertEqual((start_of(LINE, ["c", "a"]), 0), (session.standing(), session.deeds()))
        for value in any_values() + [[], ["z"], ("a",), ["a", "b", "c"], ["a", None]]:
            self.assertEqual((BadStarts,), raised(Session, LINE, value))
            self.assertEqual((BadStarts,), raised(Session, site=HUGE, starts=value))

    def test_methods_return_nothing(self):
        session = Session(Site.parse("a 9 stay -> b 1\nb 9 -> a 1"), ["a"])
        told = [session.move(move=("a",)), session.set_limit(limit=3, place="b"), session.shut_way(second="b", first="a"),
                session.open_way(steps=2, second="b", first="a"), session.add_walker(place="b"), session.back()]
        self.assertEqual([None] * 6, told)
        self.assertEqual(("a 9 stay -> b 2\nb 3 -> a 1", ((("a", 0),), (0, 1)), 4), self.state(session))

    def test_each_deed(self):
        session = Session(LINE, ["a"])
        session.move(("b",))
        session.move(("c",))
        self.assertEqual(((("c", 0),), (2, 1, 0)), session.standing())
        session.set_limit("a", 0)
        self.assertEqual("a 0 -> b 1\nb 1 -> a 1 c 1\nc 3 -> b 1", str(session.site()))
        self.assertEqual(((("c", 0),), (2, 1, 0)), session.standing())
        # A limit that stays what it is is a deed, too.
        session.set_limit("a", 0)
        self.assertEqual(4, session.deeds())
        session.open_way("c", "a", 3)
        self.assertEqual("c 3 -> a 3 b 1", str(session.site()).split("\n")[2])
        session.move(("a",))
        self.assertEqual(((("a", 2),), (3, 2, 1)), session.standing())
        session.shut_way("c", "a")
        self.assertEqual("c 3 -> b 1", str(session.site()).split("\n")[2])
        # On a way that is shut one goes on.
        session.add_walker("c")
        self.assertEqual(((("a", 2), ("c", 0)), (3, 2, 0)), session.standing())
        session.move((None, "b"))
        session.move((None, "a"))
        self.assertEqual(((("a", 0), ("a", 0)), (0, 1, 2)), session.standing())
        self.assertEqual(10, session.deeds())
        for deeds in reversed(range(10)):
            session.back()
            self.assertEqual(deeds, session.deeds())
        self.assertEqual((str(LINE), start_of(LINE, ["a"]), 0), self.state(session))
        self.assertEqual((NoDeed,), raised(session.back))
        session.move(("b",))
        self.assertEqual(1, session.deeds())

    def test_waits_go_on_behind_a_breach(self):
        session = Session(PAIR, ["a"])
        self.assertEqual([False, 0, 0], [session.is_kept(), session.longest(), session.freedom()])
        for wait in range(1, 30):
            session.move(("b",) if wait % 2 else ("a",))
        self.assertEqual(((("b", 0),), (1, 0)), session.standing())
        site = Site.parse("a 0 stay\nb 0 stay -> a 1")
        session = Session(site, ["a"])
        for wait in range(1, 30):
            session.move(("a",))
            self.assertEqual(((("a", 0),), (0, wait)), session.standing())
        self.assertEqual([False, 0, 0], [session.is_kept(), session.longest(), session.freedom()])

    def test_from_a_breach_it_can_be_kept(self):
        session = Session(LINE, ["a"])
        for move in (("b",), ("a",), ("b",), ("c",)):
            session.move(move)
        self.assertEqual(((("c", 0),), (2, 1, 0)), session.standing())
        session = Session(LINE, ["c"])
        for move in (("b",), ("c",), ("b",), ("c",), ("b",)):
            session.move(move)
        self.assertTrue(has_breach(LINE, session.standing()))
        self.assertEqual([True, None, 1], [session.is_kept(), session.longest(), session.freedom()])
        session.set_limit("c", 2)
        self.assertEqual([False, 1, 0], [session.is_kept(), session.longest(), session.freedom()])

    def test_freedom(self):
        self.assertIsNone(Session(ONE, ["a"]).freedom())
        self.assertIsNone(Session(ONE, ["a"]).longest())
        self.assertIsNone(Session(Site.parse("a 5 -> b 3\nb 5 -> a 3"), ["a"]).freedom())
        self.assertIsNone(Session(Site.parse("a 1 -> b 1\nb 1 -> a 1"), ["a", "a"]).freedom())
        self.assertEqual(1, Session(Site.parse("a 1 -> b 1\nb 0 stay -> a 1"), ["b", "b"]).freedom())
        self.assertEqual(2, Session(Site.parse("a 1 -> b 1\nb 0 stay -> a 1"), ["b", "a"]).freedom())
        self.assertIsNone(Session(PAIR, ["a", "b"]).freedom())
        site = Site.parse("a 2 stay -> b 1\nb 9 stay -> a 1")
        self.assertEqual([3, 4], [Session(site, ["a"]).freedom(), Session(with_limits(site, [3, 9]), ["a"]).freedom()])
        # A walk that is lost three moves ahead of the breach.
        session = Session(TIGHT_LINE, ["a"])
        self.assertEqual([0, 4], [session.freedom(), session.longest()])

    def test_agrees_with_point_10_at_the_beginning(self):
        for site, starts in CASES + RANDOM:
            session = Session(site, starts)
            self.assertEqual(longest_time(site, starts), session.longest())
            self.assertIs(longest_time(site, starts) is None, session.is_kept())

    def test_by_the_words_of_point_21(self):
        chance = random.Random(91)
        told = []
        deeds = {}
        for _ in range(150):
            site = some_site(chance, chance.randint(1, 4))
            starts = [chance.choice(site.names) for _ in range(chance.choice((1, 1, 2)))]
            session, model = Session(site, starts), Model(site, starts)
            past = [model]
            for _ in range(chance.randint(3, 14)):
                model = copy.deepcopy(past[-1])
                deed = self.some_deed(chance, session, model)
                deeds[deed] = deeds.get(deed, 0) + 1
                if deed == "back" and len(past) > 1:
                    past.pop()
                elif deed != "back":
                    past.append(model)
                self.same(past[-1], session, len(past) - 1)
            ahead = past[-1].lookahead(150)
            if ahead is not None:
                longest, freedom = ahead[2:]
                self.assertEqual([longest is None, longest, freedom], [session.is_kept(), session.longest(), session.freedom()])
                told.append((longest is None, len(session.standing()[0]), past[-1].has_breach(), freedom is None))
            while len(past) > 1:
                session.back()
                past.pop()
                self.same(past[-1], session, len(past) - 1)
        self.assertEqual({"move", "limit", "open", "shut", "walker", "back"}, set(deeds))
        self.assertGreater(min(deeds.values()), 15)
        self.assertGreater(len(set(told)), 7)

    def some_deed(self, chance, session, model):
        """Makes a deed by chance in a session and in a model; its name."""
        place, other = chance.choice(model.names), chance.choice(model.names)
        deed = chance.choice(("move", "move", "move", "limit", "open", "shut", "walker", "back"))
        if deed == "limit":
            limit = chance.randint(0, 9)
            session.set_limit(place, limit)
            model.limits[place] = limit
        elif deed == "open" and place != other and other not in model.ways[place]:
            steps = chance.randint(1, 3)
            session.open_way(place, other, steps)
            model.ways[place][other] = steps
        elif deed == "shut" and other in model.ways[place] and (model.stays[place] or len(model.ways[place]) > 1):
            session.shut_way(place, other)
            del model.ways[place][other]
        elif deed == "walker" and len(model.walkers) == 1:
            session.add_walker(place)
            model.walkers.append((place, 0))
            model.waits[place] = 0
        elif deed == "back":
            if session.deeds():
                session.back()
            else:
                self.assertEqual((NoDeed,), raised(session.back))
        else:
            move = chance.choice(model.moves())
            session.move(move)
            model.move(move)
            return "move"
        return deed

    def test_more_steps_left_than_a_way_has(self):
        session = Session(FAR_PAIR, ["a"])
        session.move(("b",))
        session.set_limit("a", 9)
        self.assertEqual((BadWay,), raised(session.shut_way, "a", "b"))
        site = Site.parse("a 5 stay -> b 3\nb 5 -> a 3")
        session = Session(site, ["a"])
        session.move(("b",))
        session.shut_way("a", "b")
        self.assertEqual(((("b", 2),), (1, 1)), session.standing())
        # It can't come back from b in time but by a way that is shut behind it.
        self.assertEqual([False, 7, 0], [session.is_kept(), session.longest(), session.freedom()])
        session.open_way("a", "b", 1)
        self.assertEqual([True, None], [session.is_kept(), session.longest()])
        session.move((None,))
        session.move((None,))
        self.assertEqual(((("b", 0),), (3, 0)), session.standing())

    def test_sessions_by_turns(self):
        first, second = Session(LINE, ["a"]), Session(LINE, ["a"])
        first.move(("b",))
        first.set_limit("b", 9)
        self.assertEqual((str(LINE), start_of(LINE, ["a"]), 0), self.state(second))
        second.open_way("a", "c", 1)
        self.assertNotIn("c 1", str(first.site()).split("\n")[0])
        second.move(("c",))
        first.back()
        self.assertEqual(((("c", 0),), (1, 1, 0)), second.standing())
        self.assertEqual("a 3 -> b 1\nb 1 -> a 1 c 1\nc 3 -> b 1", str(LINE))
        self.assertEqual([True] * 3, [Session(LINE, ["a"]).is_kept() for _ in range(3)])


class Refused(unittest.TestCase):
    def setUp(self):
        self.session = Session(Site.parse("a 3 -> b 1\nb 1 stay -> a 1 c 3\nc 3 -> b 2\nd 9 stay"), ["b"])
        self.session.move(("c",))

    def refused(self, error, call, *values, **named):
        session = self.session
        before = str(session.site()), session.standing(), session.deeds(), session.longest(), session.freedom()
        kept = copy.deepcopy(values)
        self.assertEqual(error, raised(call, *values, **named), repr(values))
        self.assertEqual(kept, values)
        self.assertEqual(before, (str(session.site()), session.standing(), session.deeds(), session.longest(), session.freedom()))

    def test_moves(self):
        for value in any_values() + [("b",), ("c",), [None], (None, None), None, ((None,),), (0,), ("",)]:
            if value != (None,):
                self.refused((BadMove, 0), self.session.move, value)
        self.refused((BadMove, 0), self.session.move, move=nested(None, 50))
        self.session.add_walker("a")
        for value in any_values() + [(None,), ("b",), (None, "a"), (None, None), ("b", "b"), [None, "b"], (None, "c"), (None, "b", None)]:
            self.refused((BadMove, 0), self.session.move, value)
        self.session.move((None, "b"))
        self.refused((BadMove, 0), self.session.move, ("c", "b"))
        self.session.move((None, "b"))
        self.assertEqual(4, self.session.deeds())

    def test_limits(self):
        for place in any_values() + ["e", "A", ("a",), ["a"]]:
            self.refused((UnknownPlace, place), self.session.set_limit, place, 5)
            self.refused((UnknownPlace, place), self.session.set_limit, place, "x")
        for limit in any_values() + [10, -1, 99, True, False, "3", (3,), [3]]:
            if type(limit) is not int or not 0 <= limit <= 9:
                self.refused((BadLimit,), self.session.set_limit, "a", limit)
                self.refused((BadLimit,), self.session.set_limit, limit=limit, place="d")

    def test_ways_opened(self):
        for value in any_values() + ["e", ("a",), ["a"]]:
            self.refused((UnknownPlace, value), self.session.open_way, value, "a", 1)
            self.refused((UnknownPlace, value), self.session.open_way, value, "zz", "x")
            self.refused((UnknownPlace, value), self.session.open_way, "a", value, 0)
            self.refused((UnknownPlace, "zz"), self.session.open_way, "zz", value, None)
        for first, second, steps in (("a", "a", 1), ("d", "d", 0), ("a", "b", 1), ("a", "b", 2), ("b", "c", 3)):
            self.refused((BadWay,), self.session.open_way, first, second, steps)
        for steps in any_values() + [4, 0, -1, True, False, "1", (1,)]:
            if type(steps) is not int or not 1 <= steps <= 3:
                self.refused((BadWay,), self.session.open_way, "a", "d", steps)
                self.refused((BadWay,), self.session.open_way, "a", "a", steps)
                self.refused((BadWay,), self.session.open_way, "a", "b", steps)
        for steps in (1, 2, 3):
            self.session.open_way("a", "d", steps)
            self.refused((BadWay,), self.session.open_way, "a", "d", steps)
            self.session.back()
        self.session.open_way("d", "a", 2)
        self.session.open_way("d", "c", 1)
        self.assertEqual("d 9 stay -> a 2 c 1", str(self.session.site()).split("\n")[3])

    def test_ways_shut(self):
        for value in any_values() + ["e", ("a",), ["a"]]:
            self.refused((UnknownPlace, value), self.session.shut_way, value, "a")
            self.refused((UnknownPlace, value), self.session.shut_way, value, "zz")
            self.refused((UnknownPlace, value), self.session.shut_way, "a", value)
        for first, second in (("a", "a"), ("b", "b"), ("a", "c"), ("a", "d"), ("d", "a"), ("b", "d")):
            self.refused((BadWay,), self.session.shut_way, first, second)
        # The last way from a place where one may not stay.
        self.refused((BadWay,), self.session.shut_way, "a", "b")
        self.refused((BadWay,), self.session.shut_way, second="b", first="c")
        self.session.shut_way("b", "a")
        self.session.shut_way("b", "c")
        self.assertEqual("b 1 stay", str(self.session.site()).split("\n")[1])
        self.refused((BadWay,), self.session.shut_way, "b", "c")
        self.session.open_way("a", "d", 1)
        self.session.shut_way("a", "b")
        self.refused((BadWay,), self.session.shut_way, "a", "d")
        self.assertEqual("a 3 -> d 1", str(self.session.site()).split("\n")[0])

    def test_walkers(self):
        for place in any_values() + ["e", ("a",), ["a"]]:
            self.refused((UnknownPlace, place), self.session.add_walker, place)
        self.session.add_walker("c")
        self.assertEqual(((("c", 2), ("c", 0)), (1, 1, 0, 1)), self.session.standing())
        for place in any_values() + ["e"]:
            self.refused((UnknownPlace, place), self.session.add_walker, place)
        for place in "abcd":
            self.refused((TooManyWalkers,), self.session.add_walker, place)
        two = Session(LINE, ["a", "b"])
        self.assertEqual((TooManyWalkers,), raised(two.add_walker, "c"))
        self.assertEqual((UnknownPlace, "d"), raised(two.add_walker, "d"))

    def test_back(self):
        self.session.back()
        self.refused((NoDeed,), self.session.back)
        self.session.set_limit("a", 3)
        self.session.back()
        self.refused((NoDeed,), self.session.back)


class Sizes(unittest.TestCase):
    def all_told(self, session):
        return [raised(call) for call in (session.is_kept, session.longest, session.freedom)]

    def test_at_the_beginning(self):
        for text, starts, _, _ in SMALL_ENOUGH:
            self.assertEqual([None] * 3, self.all_told(Session(Site.parse(text), starts)))
        for text, starts, _, _ in TOO_LARGE_AT_FIRST:
            session = Session(Site.parse(text), starts)
            self.assertEqual([(TooLarge,)] * 3, self.all_told(session))
            self.assertEqual((start_of(Site.parse(text), starts), 0), (session.standing(), session.deeds()))

    def test_much_too_large_until_limits_are_less(self):
        session = Session(HUGE, ["a"])
        self.assertEqual([(TooLarge,)] * 3, self.all_told(session))
        session.move(("b",))
        for name in "abcdef":
            session.set_limit(name, 3)
        self.assertEqual([None] * 3, self.all_told(session))
        self.assertEqual([False, 0], [session.is_kept(), session.freedom()])
        for _ in range(7):
            session.back()
        self.assertEqual([(TooLarge,)] * 3, self.all_told(session))
        self.assertEqual(0, session.deeds())

    def test_what_counts_is_what_is_ahead(self):
        # Behind some moves there is one standing more or less to be reached.
        told = []
        for text, starts, _, _ in SMALL_ENOUGH[:2] + TOO_LARGE_AT_FIRST[:2]:
            site = Site.parse(text)
            session, model = Session(site, starts), Model(site, starts)
            for move in moves_from(site, start_of(site, starts))[:2]:
                if not has_breach(site, stepped(site, start_of(site, starts), move)):
                    session.move(move)
                    other = copy.deepcopy(model)
                    other.move(move)
                    standings, moves, longest, freedom = other.lookahead(1000)
                    large = standings > 600 or moves > 4000
                    told.append(large)
                    self.assertEqual([(TooLarge,) if large else None] * 3, self.all_told(session))
                    if not large:
                        self.assertEqual([longest, freedom], [session.longest(), session.freedom()])
                    session.back()
        self.assertTrue(told)


if __name__ == "__main__":
    unittest.main()
