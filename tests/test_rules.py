"""Points 2, 3, 19, 20 and 22, with duewalk/rules.py."""

import copy
import random
import unittest

from anyvalues import any_values, deep_key, nested
from duewalk.errors import BadRequest, BadRule, BadStarts, TooLarge, Unfit, UnknownPlace
from duewalk.requests import Asking, is_won, requesting_table
from duewalk.rules import Rule, broken_list, keeps_list, uncovered
from duewalk.sites import Site
from duewalk.walks import start_of
from games import (
    are_allowed, first_bad, least_length, requests_of, rule_graph, some_askings, some_rule, tame_rule)
from oracles import CASES, FAR_PAIR, LINE, ONE, PAIR, TIGHT_LINE, WIDE_LINE, raised

NONE_ASKED = Asking([], 1, 1)
# To and fro on the line, whatever is requested.
TO_AND_FRO = [{None: (1, ("b",)), "c": (1, ("b",))}, {None: (2, ("c",)), "c": (2, ("c",))},
              {None: (3, ("b",)), "c": (3, ("b",))}, {None: (0, ("a",)), "c": (0, ("a",))}]
TURNED = TO_AND_FRO[1:] + TO_AND_FRO[:1]
HUGE = Site.parse("\n".join(
    f"{name} 9 stay -> " + " ".join(f"{end} 1" for end in "abcdef" if end != name) for name in "abcdef"))
RANDOM = some_askings(80, 60, 3, 250)
# (limits of places with all ways, starts, places, answer, pause, the rules, the tuples that they can reach); a rule
# has for each state the next states and the ends, for None and the places in order.
SIZES = [
    ("787677", ["f"], "ecdabf", 2, 2, [
        ("0b 0e 0a 0d 0a 0b 0f",),
    ], 1000),
    ("97697", ["d"], "ceabd", 2, 3, [
        ("0b 5c 3e 1a 1b 1d",
         "2d 4a 1e 2a 3b 2d",
         "3c 3c 2e 3a 3b 5d",
         "4d 0c 4e 5a 4b 2d",
         "1d 3c 5e 1a 5b 5d",
         "1e 0c 0e 3a 0b 0e"),
    ], 1001),
    ("69696", ["e", "c"], "ed", 2, 2, [
        ("1be 5ed 1dd", "3be 3ed 2da", "3ab 3eb 3db", "4aa 1ea 4dc", "5ec 5ea 5dd", "0cd 0ea 0dc"),
        ("0ed 1ed 1eb", "2dc 2ee 2de", "3ae 2ed 3dc", "0dc 0ee 0da"),
    ], 1000),
    ("78696", ["d", "e"], "edcab", 2, 2, [
        ("1ae 0eb 1dc 1ca 2aa 1ac", "1cc 2ed 2db 1cd 2ed 0bc", "0bb 0ce 0dc 1ce 1ad 0be"),
        ("0de 0ec 0ec 0cd 0ae 0bb",),
    ], 1001),
    ("7869", ["d"], "abd", 2, 2, [
        ("1d 1a 1b 1b", "2a 2a 2b 2d", "3c 3a 1b 3d", "4c 4c 0b 3d", "0c 0a 0b 0d"),
        ("1d 1a 1b 1d", "0a 2a 2b 1d", "1c 0a 0b 0d"),
    ], 1001),
]


def same_for_all(ends, later=0, names=("c",)):
    """A state that gives the same ends, whatever is requested."""
    return {name: (later, ends) for name in (None, *names)}


def all_ways(limits):
    names = "abcdef"[:len(limits)]
    return Site.parse("\n".join(
        f"{name} {limit} stay -> " + " ".join(f"{end} 1" for end in names if end != name)
        for name, limit in zip(names, limits)))


def rule_of(places, rows):
    return Rule([{name: (int(word[0]), tuple(word[1:])) for name, word in zip([None, *places], row.split())} for row in rows])


def some_rules(chance, site, starts, asking):
    return [make(chance, site, starts, asking) for make in (some_rule, tame_rule, tame_rule)]


class Rules(unittest.TestCase):
    def test_states(self):
        states = copy.deepcopy(TO_AND_FRO)
        rule = Rule(states)
        states[0][None] = 7
        states[1].clear()
        states.pop()
        self.assertEqual(TO_AND_FRO, rule.states())
        told = rule.states()
        told[0].clear()
        told.clear()
        self.assertEqual(TO_AND_FRO, rule.states())
        self.assertIsNot(rule.states()[0], rule.states()[0])
        self.assertEqual([list, dict, tuple, tuple], [type(rule.states()), type(rule.states()[0]),
                                                      type(rule.states()[0][None]), type(rule.states()[0][None][1])])
        self.assertTrue(Rule(states=rule.states()) == rule)

    def test_right_ones(self):
        for states in ([{None: (0, ("a",))}], [{None: (0, ("a", "zzzzzzzz"))}], [same_for_all(("a",))] * 6,
                       [{None: (1, ("x", "y")), "place": (0, ("y", "y"))}, {"place": (1, ("a", "a")), None: (1, ("b", "c"))}],
                       [{None: (0, ("a",)), **{name: (0, (name,)) for name in "abcdefghijkl"}}]):
            rule = Rule(states)
            self.assertEqual(states, rule.states())

    def test_equal(self):
        rule = Rule(TO_AND_FRO)
        self.assertIs(True, rule == Rule([dict(reversed(list(row.items()))) for row in TO_AND_FRO]))
        self.assertIs(False, rule != Rule(TO_AND_FRO))
        for other in (Rule(TURNED), Rule([same_for_all(("b",))]), TO_AND_FRO, LINE, NONE_ASKED, *any_values()):
            self.assertIs(False, rule == other)
            self.assertIs(True, rule != other)
            self.assertIs(False, other == rule)
        for changed in ((0, ("c",)), (2, ("b",))):
            self.assertIs(False, rule == Rule([{**TO_AND_FRO[0], "c": changed}] + TO_AND_FRO[1:]))

    def test_no_list_of_states(self):
        state = same_for_all(("a",))
        for value in any_values() + [[], [state] * 7, (state,), state, {0: state}, [list(state.items())], [state, None],
                                     [None, state], [5, state], [state, [state]], [[state]], "a", [{}], [{}, state], [state, {}],
                                     nested(state, 48), nested([state], 47)]:
            self.assertEqual((BadRule,), raised(Rule, value), repr(value))
            self.assertEqual((BadRule,), raised(Rule, states=value))

    def test_wrong_keys(self):
        pair = (0, ("a",))
        for row in ({"a": pair}, {None: pair, "A": pair}, {None: pair, "": pair}, {None: pair, 0: pair}, {None: pair, ("a",): pair},
                    {None: pair, "ninechars": pair}, {None: pair, False: pair}, {None: pair, nested("a", 1)[0] + "1": pair},
                    {None: pair, (("a", 0),): pair}, {None: pair, "a b": pair}, {None: pair, deep_key(): pair}, {"None": pair}, {0: pair}, {None: pair, 10 ** 30: pair}):
            self.assertEqual((BadRule,), raised(Rule, [row]), row)
            self.assertEqual((BadRule,), raised(Rule, [row, row]), row)
        a, b, both = {None: pair, "a": pair}, {None: pair, "b": pair}, {None: pair, "a": pair, "b": pair}
        for states in ([a, b], [a, both], [both, a], [a, a, {None: pair}], [{None: pair}, a], [both, {"a": pair, "b": pair}]):
            self.assertEqual((BadRule,), raised(Rule, states), states)

    def test_wrong_pairs(self):
        right = (0, ("a",))
        for value in any_values() + [
            [0, ("a",)], (0,), (0, ("a",), None), (0, "a"), (0, ["a"]), (0, ()), (0, ("a", "b", "c")), (0, ("A",)), (0, ("",)),
            (0, (None,)), (0, ("a", None)), (0, (("a",),)), (0, (0,)), (2, ("a",)), (-1, ("a",)), (None, ("a",)), (True, ("a",)),
            (False, ("a",)), ("0", ("a",)), (("a",), 0), (0, {"a": 0}), (10 ** 30, ("a",)), (0, ("a", "b")), (0, ("ninechars",)),
        ]:
            for states in ([{None: right}, {None: value}], [{None: value}, {None: right}],
                           [{None: right, "a": right}, {None: right, "a": value}]):
                self.assertEqual((BadRule,), raised(Rule, states), repr(value))
        for ends in ((), ("a",) * 3, ("a",) * 4):
            self.assertEqual((BadRule,), raised(Rule, [{None: (0, ends)}]))
            self.assertEqual((BadRule,), raised(Rule, [{None: (0, ends), "b": (0, ends)}] * 3))
        self.assertIsNone(raised(Rule, [{None: (1, ("a",))}, {None: right}]))
        self.assertEqual((BadRule,), raised(Rule, [{None: (6, ("a",))}] * 6))
        self.assertIsNone(raised(Rule, [{None: (5, ("a",))}] * 6))


class Lists(unittest.TestCase):
    def test_ordinary_ones(self):
        asking = Asking(["c"], 4, 4)
        rule = Rule(TO_AND_FRO)
        self.assertIs(True, keeps_list(LINE, ["a"], asking, rule, []))
        self.assertIs(True, keeps_list(LINE, ["a"], asking, rule, ["c", None, None, None] * 400))
        self.assertIs(True, keeps_list(LINE, ["a"], asking, rule, [None] * 3 + ["c"]))
        self.assertIs(False, keeps_list(TIGHT_LINE, ["a"], asking, rule, [None] * 5))
        self.assertIs(True, keeps_list(row=[None] * 4, rule=rule, asking=asking, starts=["a"], site=TIGHT_LINE))
        # Requested as c is left, it is missed behind the third step.
        hasty = Asking(["c"], 3, 4)
        self.assertIs(True, keeps_list(LINE, ["a"], hasty, rule, [None, None, "c", None]))
        self.assertIs(False, keeps_list(LINE, ["a"], hasty, rule, [None, None, "c", None, None]))
        self.assertIsNone(broken_list(LINE, ["a"], asking, rule))
        self.assertEqual([None, None, "c", None, None], broken_list(LINE, ["a"], hasty, rule))
        self.assertIsNone(uncovered(LINE, ["a"], hasty, rule, rule))
        self.assertIsNone(uncovered(LINE, ["a"], asking, rule, Rule(TURNED)))
        # Gives a walker at a what it may not do.
        self.assertEqual([None], broken_list(LINE, ["a"], asking, Rule(TURNED)))
        self.assertEqual([None] * 5, broken_list(TIGHT_LINE, ["a"], NONE_ASKED, rule))
        told = uncovered(second=rule, first=Rule(TURNED), asking=asking, starts=["a"], site=LINE)
        self.assertIn(told, ([None], ["c"]))

    def test_one_request(self):
        asking = Asking(["b"], 1, 3)
        rule = Rule([same_for_all(("a",), 0, ("b",))])
        site = Site.parse("a 9 stay -> b 1\nb 9 stay -> a 1")
        self.assertEqual(["b"], broken_list(site, ["a"], asking, rule))
        self.assertIs(False, keeps_list(site, ["a"], asking, rule, ["b"]))
        self.assertIs(True, keeps_list(site, ["a"], asking, rule, [None]))
        other = Rule([{None: (0, ("a",)), "b": (0, ("b",))}])
        self.assertEqual(["b"], uncovered(site, ["a"], asking, rule, other))
        self.assertEqual([None] * 10, broken_list(site, ["a"], asking, other))
        # The first rule's step is no better, so that no list of one request is kept by the second one.
        self.assertIsNone(uncovered(site, ["a"], asking, other, rule))

    def test_ends_on_a_way_mean_nothing(self):
        rule = Rule([{None: (1, ("b",))}, {None: (2, ("a",))}, {None: (3, ("b",))}, {None: (4, ("a",))}, {None: (5, ("a",))},
                     {None: (0, ("b",))}])
        self.assertIsNone(broken_list(FAR_PAIR, ["a"], NONE_ASKED, rule))
        self.assertIs(True, keeps_list(FAR_PAIR, ["a"], NONE_ASKED, rule, [None] * 60))
        two = Rule([{None: (0, ("b", "a"))}])
        self.assertEqual([None] * 4, broken_list(FAR_PAIR, ["a", "b"], NONE_ASKED, two))
        self.assertEqual([None] * 2, broken_list(PAIR, ["a", "b"], NONE_ASKED, two))

    def test_what_may_not_be_done(self):
        for site, starts, ends in ((PAIR, ["a"], ("a",)), (LINE, ["a"], ("c",)), (PAIR, ["a", "b"], ("b", "b")),
                                   (ONE, ["a", "a"], ("a", "a"))):
            rule = Rule([{None: (0, ends)}])
            self.assertEqual(None if site == ONE else [None], broken_list(site, starts, NONE_ASKED, rule))
            self.assertIs(site == ONE, keeps_list(site, starts, NONE_ASKED, rule, [None]))

    def test_whole_histories(self):
        chance = random.Random(81)
        kept = broken = 0
        for site, starts, asking, _ in RANDOM:
            for rule in some_rules(chance, site, starts, asking):
                for _ in range(4):
                    requests = []
                    position = (None, None, 0)
                    for _ in range(chance.randint(1, 12)):
                        requests.append(chance.choice(requests_of(asking, position)))
                        rest = max(0, position[2] - 1) if requests[-1] is None else asking.pause - 1
                        position = (None, None, rest)
                    self.assertTrue(are_allowed(asking, requests))
                    told = first_bad(site, starts, asking, rule, requests)
                    handed_in = list(requests)
                    self.assertIs(told is None, keeps_list(site, starts, asking, rule, requests))
                    self.assertEqual(handed_in, requests)
                    kept += told is None
                    broken += told is not None
        self.assertGreater(min(kept, broken), 60)

    def test_shortest_lists(self):
        chance = random.Random(82)
        lengths = []
        for site, starts, asking, graph in RANDOM:
            beginning = (start_of(site, starts), None, 0)
            won = is_won(site, starts, asking)
            for rule in some_rules(chance, site, starts, asking):
                row = broken_list(site, starts, asking, rule)
                self.assertEqual(least_length(site, starts, asking, [rule]), None if row is None else len(row))
                if row is None:
                    self.assertTrue(won)
                    lengths.append(0)
                    continue
                self.assertIs(list, type(row))
                self.assertTrue(are_allowed(asking, row))
                self.assertEqual(len(row) - 1, first_bad(site, starts, asking, rule, row))
                self.assertIs(False, keeps_list(site, starts, asking, rule, row))
                lengths.append(len(row))
                if not won:
                    self.assertLessEqual(len(row), requesting_table(site, starts, asking)[beginning][1] + 1)
        self.assertGreater(lengths.count(0), 5)
        self.assertGreater(lengths.count(1), 5)
        self.assertGreater(max(lengths), 7)

    def test_lists_that_tell_two_rules_apart(self):
        chance = random.Random(83)
        lengths = []
        for site, starts, asking, _ in RANDOM * 2:
            rules = some_rules(chance, site, starts, asking)
            for first, second in ((rules[1], rules[2]), (rules[2], rules[1]), (rules[0], rules[1]), (rules[1], rules[1])):
                if len(rule_graph(site, starts, asking, [first, second])) > 1000:
                    continue
                row = uncovered(site, starts, asking, first, second)
                self.assertEqual(least_length(site, starts, asking, [first, second]), None if row is None else len(row))
                if row is not None:
                    self.assertTrue(are_allowed(asking, row))
                    self.assertEqual(len(row) - 1, first_bad(site, starts, asking, first, row))
                    self.assertIsNone(first_bad(site, starts, asking, second, row))
                    self.assertEqual([False, True], [keeps_list(site, starts, asking, rule, row) for rule in (first, second)])
                lengths.append(None if row is None else len(row))
        self.assertGreater(lengths.count(None), 20)
        self.assertGreater(lengths.count(1), 10)
        self.assertGreater(max(length or 0 for length in lengths), 3)

    def test_results_are_new(self):
        rule = Rule(TO_AND_FRO)
        case = (TIGHT_LINE, ["a"], Asking(["c"], 3, 4), rule)
        broken_list(*case).clear()
        self.assertEqual([None] * 5, broken_list(*case))
        uncovered(*case[:3], Rule(TURNED), rule).append("c")
        self.assertEqual(1, len(uncovered(*case[:3], Rule(TURNED), rule)))
        self.assertEqual(TO_AND_FRO, rule.states())


class Wrong(unittest.TestCase):
    def refused(self, error, site, starts, asking, rule, other=None):
        self.assertEqual(error, raised(broken_list, site, starts, asking, rule))
        self.assertEqual(error, raised(uncovered, site, starts, asking, rule, other or rule))
        for value in ([], None, ["z"], [None, 0]):
            self.assertEqual(error, raised(keeps_list, site, starts, asking, rule, value))

    def test_order_of_the_errors(self):
        unfit = Rule([{None: (0, ("x", "y"))}])
        strange = Asking(["b", "x", "y"], 1, 1)
        for starts in any_values() + [[], ["z"], ("a",), ["a", "b", "c"], ["a", 0]]:
            self.refused((BadStarts,), LINE, starts, strange, unfit)
        self.refused((UnknownPlace, "x"), LINE, ["a"], strange, unfit)
        self.refused((Unfit, 0), LINE, ["a"], NONE_ASKED, unfit)
        self.refused((Unfit, 0), HUGE, ["a"], Asking(list("abcdef"), 9, 9), unfit)
        right = Rule([same_for_all(("b",)), same_for_all(("b",))])
        third = Rule(TO_AND_FRO[:2] + [same_for_all(("z",))] + TO_AND_FRO[3:])
        asking = Asking(["c"], 9, 9)
        self.assertEqual((Unfit, 2), raised(uncovered, LINE, ["a"], asking, right, third))
        self.assertEqual((Unfit, 2), raised(uncovered, LINE, ["a"], asking, third, unfit))
        self.assertEqual((Unfit, 0), raised(uncovered, LINE, ["a"], asking, unfit, third))
        self.assertEqual((Unfit, 2), raised(uncovered, WIDE_LINE, ["a"], asking, third, right))

    def test_unfit(self):
        asking = Asking(["c"], 9, 9)
        right = same_for_all(("b",))
        for number in range(6):
            for row in ({None: (0, ("b",)), "c": (0, ("z",))}, {None: (0, ("z",)), "c": (0, ("b",))}):
                states = [right] * 6
                states[number] = row
                self.refused((Unfit, number), LINE, ["a"], asking, Rule(states))
                states[5] = row
                self.refused((Unfit, number), LINE, ["a"], asking, Rule(states))
        for starts, states in ((["a"], [{None: (0, ("b",))}] * 2), (["a"], [same_for_all(("b",), 0, ("b",))] * 2),
                               (["a", "b"], [right] * 2), (["a"], [same_for_all(("b", "b"))] * 2)):
            self.refused((Unfit, 0), LINE, starts, asking, Rule(states))
        # What is not asked for may be anything.
        rule = Rule([{**right, "x": (0, ("z",)), "z": (0, ("zz",))}])
        self.assertEqual([None] * 2, broken_list(LINE, ["a"], asking, rule))
        self.assertEqual([None] * 2, broken_list(LINE, ["a"], NONE_ASKED, rule))
        # Ends may be any places of the site, also such that no way leads to.
        self.assertEqual(1, len(broken_list(LINE, ["a"], asking, Rule([same_for_all(("c",))]))))

    def test_lists_that_are_not_allowed(self):
        asking = Asking(["c", "a"], 2, 3)
        rule = Rule([same_for_all(("b",), 0, ("a", "b", "c"))])
        for row, index in ((["b"], 0), ([None, None, "b"], 2), (["c", "c"], 1), (["c", None, "a"], 2), (["a", None, None, "c", "c"], 4),
                           ([None] * 40 + ["z"], 40), ([None, "c", 0], 2), ([False], 0), ([["c"]], 0), ([("c",)], 0), ([None, {}], 1)):
            self.assertEqual((BadRequest, index), raised(keeps_list, LINE, ["a"], asking, rule, row), row)
        for value in any_values():
            self.assertEqual(None if value in ([], [None]) else (BadRequest, 0), raised(keeps_list, LINE, ["a"], asking, rule, value))
            expected = None if value is None else (BadRequest, 3)
            self.assertEqual(expected, raised(keeps_list, LINE, ["a"], asking, rule, ["c", None, None, value]), repr(value))
        for value in (("c",), {"c": 0}, {}, "c", (), 0, None, True):
            self.assertEqual((BadRequest, 0), raised(keeps_list, LINE, ["a"], asking, rule, value))
        self.assertIs(False, keeps_list(LINE, ["a"], asking, rule, ["c", None, None, "a"]))

    def test_sizes(self):
        for limits, starts, places, answer, pause, tables, many in SIZES:
            site, asking = all_ways(limits), Asking(list(places), answer, pause)
            rules = [rule_of(places, rows) for rows in tables]
            graph = rule_graph(site, starts, asking, rules)
            self.assertEqual(many, len(graph))
            call = broken_list if len(rules) == 1 else uncovered
            if many > 1000:
                self.assertEqual((TooLarge,), raised(call, site, starts, asking, *rules))
            else:
                row = call(site, starts, asking, *rules)
                self.assertEqual(least_length(site, starts, asking, rules), None if row is None else len(row))
            # Lists that are judged alone may be of any size.
            for rule in rules:
                requests = [None] * 40
                self.assertIs(first_bad(site, starts, asking, rule, requests) is None,
                              keeps_list(site, starts, asking, rule, requests))


if __name__ == "__main__":
    unittest.main()
