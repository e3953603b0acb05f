"""Points 3 and 6 to 9, with duewalk/walks.py."""

import copy
import itertools
import random
import unittest

from anyvalues import any_values, nested
from duewalk.errors import BadMove, BadStanding, BadStarts
from duewalk.sites import Site
from duewalk.walks import followed, has_breach, moves_from, start_of, stepped

LINE = Site.parse("a 3 -> b 1\nb 1 -> a 1 c 1\nc 3 -> b 1")
LONG = Site.parse("a 3 stay -> b 3 c 2\nb 1 -> a 2\nc 0 stay -> b 1 d 3\nd 9 -> a 1")
ONE = Site.parse("a 2 stay")
STAY = Site.parse("stay 1 stay -> to 2\nto 2 -> stay 1")
LINE_OF_TWO = Site.parse("a 3 -> b 2\nb 3 -> a 2")
SITES = [LINE, LINE_OF_TWO, LONG, ONE, STAY]


def raised(call, *values, **named):
    """The error of a call with its index (None if it has none), or None."""
    try:
        call(*values, **named)
    except (BadMove, BadStanding, BadStarts) as error:
        return type(error), getattr(error, "index", None)
    return None


def walked(site, chance, starts, many):
    """Standings on a walk by chance, the one at the beginning included."""
    standing = start_of(site, starts)
    standings = [standing]
    for _ in range(many):
        standing = stepped(site, standing, chance.choice(moves_from(site, standing)))
        standings.append(standing)
    return standings


def is_exactly(kind, value):
    return type(value) is kind


def expected_standing(site, value):
    """Whether a value is a standing, told in another way than the package does."""
    try:
        walkers, waits = value
        pairs = [(place, left) for place, left in walkers]
        right = is_exactly(tuple, value) and is_exactly(tuple, walkers) and is_exactly(tuple, waits)
        right = right and len(pairs) in (1, 2) and len(waits) == len(site.names)
        right = right and all(is_exactly(tuple, walker) for walker in walkers)
        for place, left in pairs:
            lefts = {0} | {k for row in site.ways for end, steps in row if end == place for k in range(steps)}
            right = right and place in site.names and is_exactly(int, left) and left in lefts
            right = right and (left != 0 or waits[site.names.index(place)] == 0)
        return right and all(is_exactly(int, wait) and wait >= 0 for wait in waits)
    except (TypeError, ValueError, IndexError):
        return False


class Starts(unittest.TestCase):
    def test_one_and_two_names(self):
        self.assertEqual(((("a", 0),), (0, 0, 0)), start_of(LINE, ["a"]))
        self.assertEqual(((("c", 0), ("a", 0)), (0, 0, 0)), start_of(LINE, ["c", "a"]))
        self.assertEqual(((("b", 0), ("b", 0)), (0, 0, 0)), start_of(LINE, ["b", "b"]))
        self.assertEqual(((("a", 0),), (0,)), start_of(site=ONE, starts=["a"]))
        self.assertEqual(((("to", 0), ("stay", 0)), (0, 0)), start_of(STAY, ["to", "stay"]))

    def test_no_starts(self):
        wrong = [
            [], ["a", "b", "c"], ["a", "a", "a"], ["d"], ["a", "d"], ["d", "a"], ["A"], [""], ["a", ""], ["a "],
            ("a",), ("a", "b"), "a", "ab", "b", {"a": 0}, [["a"]], ["a", ["b"]], [("a",)], ["a", None], [None], [0],
            [True], ["a", 1], [{}], [("a", 0)], nested("a", 50), [nested("a", 49)], ["a", nested("b", 49)],
        ]
        for value in wrong + any_values():
            with self.subTest(repr(value)):
                self.assertEqual((BadStarts, None), raised(start_of, LINE, value))
                self.assertEqual((BadStarts, None), raised(followed, LINE, value, []))

    def test_the_list_may_be_changed_behind_the_call(self):
        starts = ["a", "b"]
        standing = start_of(LINE, starts)
        self.assertEqual(["a", "b"], starts)
        starts[0] = "c"
        starts.append("c")
        self.assertEqual(((("a", 0), ("b", 0)), (0, 0, 0)), standing)


class Standings(unittest.TestCase):
    RIGHT = [
        (LINE, ((("a", 0),), (0, 0, 0))),
        (LINE, ((("a", 0),), (0, 7, 0))),
        (LINE, ((("a", 0), ("a", 0)), (0, 1, 2))),
        (LINE, ((("a", 0), ("c", 0)), (0, 1, 0))),
        (LINE, ((("b", 0),), (10 ** 60, 0, 10 ** 99))),
        (LONG, ((("b", 2),), (0, 0, 0, 0))),
        (LONG, ((("b", 1),), (5, 6, 7, 8))),
        (LONG, ((("c", 1), ("d", 2)), (1, 2, 3, 4))),
        (LONG, ((("d", 2), ("a", 1)), (4, 3, 2, 1))),
        (LONG, ((("a", 1), ("a", 0)), (0, 3, 2, 1))),
        (ONE, ((("a", 0), ("a", 0)), (0,))),
    ]
    WRONG_LINE = [
        ((("a", 0),), (0, 0, 0), ()), ((("a", 0),),), ((0, 0, 0), (("a", 0),)),
        [(("a", 0),), (0, 0, 0)], ([("a", 0)], (0, 0, 0)), ((["a", 0],), (0, 0, 0)), ((("a", 0),), [0, 0, 0]),
        ((), (0, 0, 0)), ((("a", 0), ("a", 0), ("a", 0)), (0, 0, 0)), (("a", 0), (0, 0, 0)), ("a", (0, 0, 0)),
        (("a",), (0, 0, 0)), ((("a",),), (0, 0, 0)), ((("a", 0, 0),), (0, 0, 0)), ((("a", 0), ()), (0, 0, 0)),
        (({"a": 0},), (0, 0, 0)), ({("a", 0): 0}, (0, 0, 0)), ((("a", 0), None), (0, 0, 0)), (None, (0, 0, 0)),
        ((("d", 0),), (0, 0, 0)), (((None, 0),), (0, 0, 0)), (((0, 0),), (0, 0, 0)), ((("", 0),), (0, 0, 0)),
        ((("A", 0),), (0, 0, 0)), (((("a",), 0),), (0, 0, 0)), (((["a"], 0),), (0, 0, 0)), (("ab",), (0, 0, 0)),
        ((("a", 0), ("d", 0)), (0, 0, 0)), ((("a", 0), ("b", 1)), (0, 0, 0)),
        ((("a", 1),), (0, 0, 0)), ((("b", 1),), (1, 1, 1)), ((("a", -1),), (1, 1, 1)), ((("a", 10 ** 30),), (1, 1, 1)),
        ((("a", None),), (0, 0, 0)), ((("a", "0"),), (0, 0, 0)), ((("a", False),), (0, 0, 0)), ((("a", ()),), (0, 0, 0)),
        ((("a", True),), (1, 1, 1)), ((("a", [0]),), (0, 0, 0)),
        ((("a", 0),), (0, 0)), ((("a", 0),), (0, 0, 0, 0)), ((("a", 0),), ()), ((("a", 0),), None), ((("a", 0),), 0),
        ((("a", 0),), {0: 0, 1: 0, 2: 0}), ((("a", 0),), "000"), ((("a", 0),), (0, -1, 0)), ((("b", 0),), (0, 0, -1)),
        ((("a", 0),), (0, "1", 0)), ((("a", 0),), (0, None, 0)), ((("a", 0),), (0, True, 0)),
        ((("a", 0),), (False, 0, 0)), ((("a", 0),), (0, 0, False)), ((("a", 0),), (0, (1,), 0)), ((("a", 0),), (0, [1], 0)),
        ((("a", 0),), (1, 0, 0)), ((("b", 0),), (0, 1, 0)), ((("a", 0), ("c", 0)), (0, 0, 1)), ((("c", 0), ("a", 0)), (9, 0, 0)),
        nested(((("a", 0),), (0, 0, 0)), 47), (nested("a", 49), (0, 0, 0)), ((nested(("a", 0), 48),), (0, 0, 0)),
        (((nested("a", 47), 0),), (0, 0, 0)), ((("a", nested(0, 47)),), (0, 0, 0)), ((("a", 0),), nested((0, 0, 0), 48)),
        ((("a", 0),), (0, nested(0, 48), 0)),
    ]
    WRONG_LONG = [
        ((("b", 3),), (1, 1, 1, 1)), ((("c", 2),), (1, 1, 1, 1)), ((("d", 3),), (1, 1, 1, 1)), ((("a", 2),), (1, 1, 1, 1)),
        ((("b", 1), ("a", 2)), (1, 1, 1, 1)), ((("b", True),), (1, 1, 1, 1)), ((("b", 1), ("b", 0)), (0, 1, 0, 0)),
        ((("a", 0),), (0, 0, 0)),
    ]

    def all_refuse(self, site, value):
        for call in (moves_from, has_breach):
            self.assertEqual((BadStanding, None), raised(call, site, value), repr(value))
        for move in (("a",), ("b",), None, 0):
            self.assertEqual((BadStanding, None), raised(stepped, site, value, move), repr(value))

    def test_right_ones(self):
        for site, standing in self.RIGHT:
            before = copy.deepcopy(standing)
            self.assertIsNone(raised(moves_from, site, standing), standing)
            self.assertIsNone(raised(has_breach, site, standing), standing)
            self.assertIsNone(raised(stepped, site, standing, moves_from(site, standing)[0]))
            self.assertEqual(before, standing)

    def test_wrong_ones(self):
        for value in self.WRONG_LINE + any_values():
            self.all_refuse(LINE, value)
        for value in self.WRONG_LONG + any_values():
            self.all_refuse(LONG, value)
        # A place to which no way leads has no walker on a way to it.
        site = Site.parse("a 1 -> b 3\nb 1 stay")
        self.all_refuse(site, ((("a", 1),), (1, 1)))
        self.assertEqual([("b",)], moves_from(site, ((("a", 0),), (0, 1))))

    def test_left_less_than_some_way_to_the_place(self):
        # One way to b takes 3 steps, the other one takes 1.
        for left, waits in ((0, (1, 0, 1, 1)), (1, (1, 1, 1, 1)), (2, (1, 1, 1, 1))):
            self.assertIsNone(raised(moves_from, LONG, ((("b", left),), waits)))
        self.assertEqual((BadStanding, None), raised(moves_from, LONG, ((("b", 3),), (1, 1, 1, 1))))

    def test_all_small_ones(self):
        lefts = [-1, 0, 1, 2, 3, False, True, None, "0"]
        walkers = [(place, left) for place in ("stay", "to", "x") for left in lefts]
        pairs = [(one,) for one in walkers] + list(itertools.product(walkers, walkers))
        waits = list(itertools.product([-1, 0, 1, False], repeat=2))
        right = 0
        for value in itertools.product(pairs, waits):
            told = raised(has_breach, STAY, value) is None
            self.assertIs(expected_standing(STAY, value), told, value)
            right += told
        self.assertEqual(26, right)

    def test_standings_with_one_thing_changed(self):
        chance = random.Random(7)
        for site, starts in ((LONG, ["a"]), (LONG, ["c", "d"]), (LINE, ["b", "b"]), (STAY, ["to"])):
            for standing in walked(site, chance, starts, 30):
                for _ in range(20):
                    value = changed(standing, chance)
                    self.assertIs(expected_standing(site, value), raised(moves_from, site, value) is None, value)


def changed(value, chance):
    """A value with one part put in another one's place."""
    parts = [None, True, False, 0, 1, 2, 3, -1, "a", "b", "d", "e", (), ("a", 0), ("b", 1), [0], {}]
    if isinstance(value, tuple) and value and chance.random() < 0.8:
        at = chance.randrange(len(value))
        kind = list if chance.random() < 0.05 else tuple
        return kind([*value[:at], changed(value[at], chance), *value[at + 1:]])
    return chance.choice(parts)


class Moves(unittest.TestCase):
    def test_one_walker(self):
        self.assertEqual([("b",)], moves_from(LINE, ((("a", 0),), (0, 4, 4))))
        self.assertEqual([("a",), ("c",)], sorted(moves_from(LINE, ((("b", 0),), (4, 0, 4)))))
        self.assertEqual([("a",)], moves_from(ONE, ((("a", 0),), (0,))))
        self.assertEqual([("a",), ("b",), ("c",)], sorted(moves_from(site=LONG, standing=((("a", 0),), (0, 0, 0, 0)))))
        self.assertEqual([("a",)], moves_from(LONG, ((("b", 0),), (0, 0, 0, 0))))
        self.assertEqual([(None,)], moves_from(LONG, ((("b", 2),), (1, 2, 3, 4))))
        self.assertEqual([(None,)], moves_from(LONG, ((("c", 1),), (1, 2, 3, 4))))

    def test_two_walkers(self):
        moves = moves_from(LONG, ((("a", 0), ("c", 0)), (0, 1, 0, 1)))
        self.assertEqual(sorted(itertools.product("abc", "bcd")), sorted(moves))
        self.assertEqual([("b", None)], moves_from(LINE_OF_TWO, ((("a", 0), ("a", 1)), (0, 3))))
        self.assertEqual([(None, None)], moves_from(LONG, ((("b", 1), ("d", 2)), (1, 1, 1, 1))))
        self.assertEqual([(None, "a")], moves_from(LONG, ((("b", 2), ("d", 0)), (1, 1, 1, 0))))
        same = moves_from(LINE, ((("b", 0), ("b", 0)), (1, 0, 1)))
        self.assertEqual([("a", "a"), ("a", "c"), ("c", "a"), ("c", "c")], sorted(same))

    def test_a_place_called_stay(self):
        self.assertEqual([("stay",), ("to",)], sorted(moves_from(STAY, ((("stay", 0),), (0, 0)))))
        self.assertEqual([("stay",)], moves_from(STAY, ((("to", 0),), (0, 0))))

    def test_the_list_is_new(self):
        standing = ((("b", 0),), (4, 0, 4))
        moves = moves_from(LINE, standing)
        moves.clear()
        moves.append(7)
        self.assertEqual([("a",), ("c",)], sorted(moves_from(LINE, standing)))

    def test_moves_are_tuples_without_doubles(self):
        for site in SITES:
            for starts in ([site.names[0]], [site.names[0], site.names[-1]]):
                for standing in walked(site, random.Random(3), starts, 20):
                    moves = moves_from(site, standing)
                    self.assertIs(list, type(moves))
                    self.assertEqual([tuple] * len(moves), [type(move) for move in moves])
                    self.assertEqual(len(moves), len(set(moves)))
                    self.assertGreater(len(moves), 0)


class Steps(unittest.TestCase):
    def test_one_step(self):
        self.assertEqual(((("b", 0),), (1, 0, 1)), stepped(LINE, ((("a", 0),), (0, 0, 0)), ("b",)))
        self.assertEqual(((("b", 0),), (1, 0, 10 ** 80 + 1)), stepped(LINE, ((("a", 0),), (0, 5, 10 ** 80)), ("b",)))
        self.assertEqual(((("a", 0),), (0,)), stepped(site=ONE, standing=((("a", 0),), (0,)), move=("a",)))

    def test_ways_of_more_steps(self):
        standing = ((("a", 0),), (0, 4, 5, 6))
        for left in (2, 1, 0):
            standing = stepped(LONG, standing, ("b",) if left == 2 else (None,))
            self.assertEqual((("b", left),), standing[0])
        self.assertEqual((3, 0, 8, 9), standing[1])
        self.assertEqual(((("c", 1),), (1, 1, 1, 1)), stepped(LONG, start_of(LONG, ["a"]), ("c",)))
        self.assertEqual(((("b", 0),), (1, 0, 1, 1)), stepped(LONG, start_of(LONG, ["c"]), ("b",)))

    def test_staying(self):
        self.assertEqual(((("c", 0),), (2, 3, 0, 5)), stepped(LONG, ((("c", 0),), (1, 2, 0, 4)), ("c",)))

    def test_two_walkers(self):
        # They pass each other, be it on one way there and back, or in one step.
        self.assertEqual(((("b", 1), ("a", 1)), (1, 1)), stepped(LINE_OF_TWO, ((("a", 0), ("b", 0)), (0, 0)), ("b", "a")))
        self.assertEqual(((("b", 0), ("a", 0)), (0, 0, 4)), stepped(LINE, ((("a", 0), ("b", 0)), (0, 0, 3)), ("b", "a")))
        # They stand at one place, and are on one way.
        self.assertEqual(((("b", 0), ("b", 0)), (1, 0, 1)), stepped(LINE, ((("a", 0), ("c", 0)), (0, 9, 0)), ("b", "b")))
        self.assertEqual(((("b", 0), ("b", 1)), (1, 0)), stepped(LINE_OF_TWO, ((("b", 1), ("a", 0)), (0, 2)), (None, "b")))
        self.assertEqual(((("b", 2), ("b", 2)), (1, 1, 1, 1)), stepped(LONG, start_of(LONG, ["a", "a"]), ("b", "b")))
        self.assertEqual(((("b", 1), ("a", 0)), (0, 6, 7, 8)), stepped(LONG, ((("b", 2), ("a", 1)), (4, 5, 6, 7)), (None, None)))
        # The order of the walkers is kept.
        self.assertEqual(((("c", 0), ("a", 0)), (0, 1, 0)), stepped(LINE, start_of(LINE, ["b", "b"]), ("c", "a")))

    def test_no_moves(self):
        standing = ((("a", 0),), (0, 0, 0, 0))
        wrong = [("d",), (None,), (), ("a", "a"), ("b", None), ["b"], "b", ("b", "b"), ("B",), ("",), (0,), (True,), (False,),
                 (["b"],), (("b",),), {"b": 0}, {}, ("a ",), nested(("b",), 49), (nested("b", 49),)]
        for move in wrong + any_values():
            self.assertEqual((BadMove, 0), raised(stepped, LONG, standing, move), repr(move))
        self.assertEqual((BadMove, 0), raised(stepped, LINE, ((("a", 0),), (0, 0, 0)), ("a",)))
        self.assertEqual((BadMove, 0), raised(stepped, LINE, ((("a", 0),), (0, 0, 0)), ("c",)))
        on_way = ((("b", 1),), (1, 1, 1, 1))
        for move in [("b",), ("a",), (0,), (False,), ("",), ((),), ([],), (None, None), None, ()]:
            self.assertEqual((BadMove, 0), raised(stepped, LONG, on_way, move), repr(move))
        two = ((("a", 0), ("b", 1)), (0, 1, 1, 1))
        for move in [("b",), (None, "b"), ("b", "b"), ("b", "a"), (None, None), ("b", None, None), ["b", None], (("b", None),)]:
            self.assertEqual((BadMove, 0), raised(stepped, LONG, two, move), repr(move))
        self.assertIsNone(raised(stepped, LONG, two, ("b", None)))

    def test_bad_standing_ahead_of_bad_move(self):
        for move in any_values():
            self.assertEqual((BadStanding, None), raised(stepped, LINE, ((("a", 0),), (1, 0, 0)), move))

    def test_arguments_stay(self):
        standing = ((("a", 0),), (0, 1, 2))
        move = ["b"]
        raised(stepped, LINE, standing, move)
        stepped(LINE, standing, ("b",))
        self.assertEqual((((("a", 0),), (0, 1, 2)), ["b"]), (standing, move))
        self.assertEqual("a 3 -> b 1\nb 1 -> a 1 c 1\nc 3 -> b 1", str(LINE))

    def test_walks_by_point_8(self):
        chance = random.Random(8)
        for site in SITES:
            for starts in [[name] for name in site.names] + [[site.names[0], name] for name in site.names]:
                standing = start_of(site, starts)
                for _ in range(40):
                    move = chance.choice(moves_from(site, standing))
                    after = stepped(site, standing, move)
                    self.check_step(site, standing, move, after)
                    standing = after

    def check_step(self, site, standing, move, after):
        stood = set()
        for (place, left), end, (where, rest) in zip(standing[0], move, after[0]):
            if left:
                expected = (place, left - 1)
            elif end == place:
                expected = (place, 0)
            else:
                expected = (end, dict(site.ways[site.names.index(place)])[end] - 1)
            self.assertEqual(expected, (where, rest))
            if rest == 0:
                stood.add(where)
        waits = [0 if name in stood else wait + 1 for name, wait in zip(site.names, standing[1])]
        self.assertEqual(tuple(waits), after[1])
        self.assertEqual([tuple, tuple, tuple], [type(after), type(after[0]), type(after[1])])
        self.assertTrue(expected_standing(site, after))


class Breaches(unittest.TestCase):
    def test_at_below_and_above_a_limit(self):
        for waits, told in [
            ((0, 0, 0), False), ((0, 1, 3), False), ((0, 2, 0), True), ((0, 0, 4), True), ((0, 1, 4), True),
            ((0, 0, 10 ** 50), True), ((0, 1, 2), False),
        ]:
            self.assertIs(told, has_breach(LINE, ((("a", 0),), waits)))
        self.assertIs(True, has_breach(site=LINE, standing=((("b", 0),), (4, 0, 3))))
        self.assertIs(False, has_breach(LINE, ((("b", 0), ("b", 0)), (3, 0, 3))))

    def test_limits_0_and_9(self):
        self.assertIs(False, has_breach(LONG, ((("c", 0),), (3, 1, 0, 9))))
        self.assertIs(True, has_breach(LONG, ((("c", 0),), (3, 1, 0, 10))))
        self.assertIs(True, has_breach(LONG, ((("a", 0),), (0, 1, 1, 9))))
        self.assertIs(True, has_breach(LONG, ((("b", 1),), (0, 0, 1, 0))))
        self.assertIs(False, has_breach(LONG, ((("b", 1),), (0, 0, 0, 0))))


class Followed(unittest.TestCase):
    def test_example_of_the_document(self):
        self.assertEqual(
            [((("b", 0),), (1, 0, 1)), ((("c", 0),), (2, 1, 0))], followed(LINE, ["a"], [("b",), ("c",)]))

    def test_ordinary_lists(self):
        self.assertEqual([], followed(LINE, ["a"], []))
        self.assertEqual(
            [((("b", 2), ("d", 2)), (1, 1, 1, 1)), ((("b", 1), ("d", 1)), (2, 2, 2, 2)),
             ((("b", 0), ("d", 0)), (3, 0, 3, 0)), ((("a", 1), ("a", 0)), (0, 1, 4, 1)),
             ((("a", 0), ("a", 0)), (0, 2, 5, 2))],
            followed(site=LONG, starts=["a", "c"],
                     run=[("b", "d"), (None, None), (None, None), ("a", "a"), (None, "a")]))

    def test_waits_go_on_behind_a_breach(self):
        standings = followed(LONG, ["a"], [("a",)] * 30)
        self.assertEqual([((("a", 0),), (0, k, k, k)) for k in range(1, 31)], standings)

    def test_each_is_what_stepped_gives(self):
        chance = random.Random(9)
        for site in SITES:
            standing = start_of(site, [site.names[0], site.names[-1]])
            run, standings = [], []
            for _ in range(25):
                run.append(chance.choice(moves_from(site, standing)))
                standing = stepped(site, standing, run[-1])
                standings.append(standing)
            self.assertEqual(standings, followed(site, [site.names[0], site.names[-1]], run))

    def test_bad_moves(self):
        for index in range(4):
            for wrong in any_values() + ["b", ["b"], ("a",) if index % 2 == 0 else ("b",), (None,)]:
                run = [("b",), ("a",), ("b",), ("c",), ("b",)]
                run[index] = wrong
                before = copy.deepcopy(run)
                self.assertEqual((BadMove, index), raised(followed, LINE, ["a"], run), repr(wrong))
                self.assertEqual(before, run)
        self.assertEqual((BadMove, 1), raised(followed, LINE, ["a"], [("b",), ("b",), None]))
        self.assertEqual((BadMove, 5), raised(followed, LINE, ["a"], [("b",), ("a",)] * 2 + [("b",), ("b",)]))

    def test_no_lists(self):
        values = [value for value in any_values() if not isinstance(value, list)]
        for value in values + [(("b",), ("c",)), "bc", {("b",): ("c",)}, ()]:
            self.assertEqual((BadMove, 0), raised(followed, LINE, ["a"], value), repr(value))

    def test_bad_starts_ahead_of_bad_move(self):
        for value in any_values():
            self.assertEqual((BadStarts, None), raised(followed, LINE, ["d"], value))
            self.assertEqual((BadStarts, None), raised(followed, LINE, ("a",), [value]))

    def test_the_list_is_new(self):
        starts, run = ["a"], [("b",), ("c",)]
        standings = followed(LINE, starts, run)
        standings.append(7)
        standings[0] = None
        self.assertEqual((["a"], [("b",), ("c",)]), (starts, run))
        self.assertEqual([((("b", 0),), (1, 0, 1)), ((("c", 0),), (2, 1, 0))], followed(LINE, starts, run))


if __name__ == "__main__":
    unittest.main()
