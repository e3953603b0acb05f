"""Points 2, 3, 4, 22 and 30 over the whole program: other names, other orders of keys, smaller waits, deep values."""

import random
import unittest

from anyvalues import any_values, deep_key, nested
from duewalk.costs import are_rule_weights, rule_size, rule_toil, rule_weights
from duewalk.keeping import are_safe, longest_time, safe_table, time_table
from duewalk.late import are_weights, least_share, share_weights
from duewalk.requests import (
    Asking, are_requesting, are_walking, calm_positions, is_won, requesting_table, walking_table)
from duewalk.rules import Rule, broken_list
from duewalk.sessions import Session
from duewalk.sites import Site
from duewalk.stocked import (
    are_stocked_walking, least_size_asked, need_positions, stocked_requesting, stocked_walking)
from duewalk.stores import are_stocked, least_size, need_table, short_times, stock_table
from duewalk.toil import are_toil_weights, least_toil, toil_weights
from duewalk.watches import Watch
from games import tame_rule
from oracles import LINE, raised
from test_costs import KEPT as KEPT_RULES
from test_stocked import NAMED, RANDOM, RESTED
from test_stores import STAYING

# No name is barred: not those that a text or Python has a use for either.
NAMES = {"a": "stay", "b": "none", "c": "z", "d": "true", "e": "zzzzzzzz", "f": "lambda"}
CASES = (NAMED + RANDOM + RESTED)[::3]


def named_anew(value):
    """A value with other names of the places, wherever they stand in it."""
    if isinstance(value, str):
        return NAMES[value]
    if isinstance(value, tuple):
        return tuple(named_anew(part) for part in value)
    if isinstance(value, list):
        return [named_anew(part) for part in value]
    if isinstance(value, dict):
        return {named_anew(key): named_anew(part) for key, part in value.items()}
    return value


def site_named_anew(site):
    ways = [sorted((NAMES[end], steps) for end, steps in row) for row in site.ways]
    rows = []
    for name, limit, stay, row in zip(site.names, site.limits, site.stays, ways):
        told = "".join(f" {end} {steps}" for end, steps in row)
        rows.append(f"{NAMES[name]} {limit}" + " stay" * stay + " ->" * bool(row) + told)
    return Site.parse("\n".join(rows))


def turned_about(value):
    """A dict with its keys put in the other way round, and so all dicts in it."""
    if isinstance(value, dict):
        return {key: turned_about(value[key]) for key in reversed(list(value))}
    return value


class Whole(unittest.TestCase):
    def test_other_names(self):
        chance = random.Random(150)
        for site, starts, asking, _ in CASES:
            other, begin = site_named_anew(site), named_anew(starts)
            asked = Asking(named_anew(list(asking.places)), asking.answer, asking.pause)
            for call in (longest_time, least_share, least_size):
                self.assertEqual(call(site, starts), call(other, begin))
            for call in (time_table,):
                self.assertEqual(named_anew(call(site, starts)), call(other, begin))
            for call in (need_table, short_times):
                self.assertEqual(named_anew(call(site, starts, 4)), call(other, begin, 4))
            for call in (is_won, least_size_asked):
                self.assertEqual(call(site, starts, asking), call(other, begin, asked))
            self.assertEqual(set(named_anew(calm_positions(site, starts, asking))), set(calm_positions(other, begin, asked)))
            self.assertEqual(named_anew(need_positions(site, starts, asking, 3)), need_positions(other, begin, asked, 3))
            self.assertTrue(are_walking(other, begin, asked, named_anew(walking_table(site, starts, asking))))
            self.assertTrue(are_requesting(other, begin, asked, named_anew(requesting_table(site, starts, asking))))
            self.assertTrue(are_stocked_walking(other, begin, asked, 3, named_anew(stocked_walking(site, starts, asking, 3))))
            if longest_time(site, starts) is None:
                self.assertEqual(least_toil(site, starts), least_toil(other, begin))
            rule = tame_rule(chance, site, starts, asking)
            row, told = [broken_list(*case) for case in ((site, starts, asking, rule), (other, begin, asked, Rule(named_anew(rule.states()))))]
            self.assertEqual(None if row is None else len(row), None if told is None else len(told))

    def test_places_with_odd_names_in_sessions_and_watches(self):
        site = Site.parse("none 9 stay -> stay 1\nstay 9 -> none 1")
        session = Session(site, ["stay"])
        session.move(("none",))
        session.shut_way("none", "stay")
        self.assertEqual("none 9 stay\nstay 9 -> none 1", str(session.site()))
        session.open_way("none", "stay", 1)
        self.assertEqual(str(site), str(session.site()))
        watch = Watch(site, ["none"], Asking(["stay"], 2, 5), 4)
        watch.step("stay", ("stay",))
        self.assertEqual(("none",), watch.advice(None))

    def test_the_order_of_keys_means_nothing(self):
        for site, starts, asking, _ in CASES:
            self.assertTrue(are_safe(site, starts, turned_about(safe_table(site, starts))))
            self.assertTrue(are_weights(site, starts, least_share(site, starts), turned_about(share_weights(site, starts))))
            self.assertTrue(are_walking(site, starts, asking, turned_about(walking_table(site, starts, asking))))
            self.assertTrue(are_requesting(site, starts, asking, turned_about(requesting_table(site, starts, asking))))
            self.assertTrue(are_stocked(site, starts, 5, turned_about(stock_table(site, starts, 5))))
            self.assertTrue(are_stocked_walking(site, starts, asking, 5, turned_about(stocked_walking(site, starts, asking, 5))))
            if longest_time(site, starts) is None:
                share = least_toil(site, starts)
                self.assertTrue(are_toil_weights(site, starts, share, turned_about(toil_weights(site, starts))))
        for site, starts, asking, rule, _ in KEPT_RULES[::4]:
            same = Rule([turned_about(row) for row in rule.states()])
            self.assertTrue(same == rule)
            share = rule_toil(site, starts, asking, same)
            self.assertEqual((share, rule_size(site, starts, asking, rule)),
                             (rule_toil(site, starts, asking, rule), rule_size(site, starts, asking, same)))
            weights = turned_about(rule_weights(site, starts, asking, rule))
            self.assertTrue(are_rule_weights(site, starts, asking, same, share, weights))

    def test_smaller_waits_are_never_worse_with_requests_and_stores(self):
        pairs = 0
        for site, starts, asking, _ in CASES:
            needs = need_positions(site, starts, asking, 6)
            times = {node: time for node, (_, time) in requesting_table(site, starts, asking).items()}
            short = {node: time for node, (_, time) in stocked_requesting(site, starts, asking, 6).items()}
            for (walkers, waits), asked, rest in list(needs)[:25]:
                for node in list(needs)[:60]:
                    if node[0][0] == walkers and node[1:] == (asked, rest):
                        if all(wait <= later for wait, later in zip(waits, node[0][1])):
                            less = ((walkers, waits), asked, rest)
                            pairs += less != node
                            self.assertLessEqual(13 if needs[less] is None else needs[less], 13 if needs[node] is None else needs[node])
                            self.assertGreaterEqual(times.get(less, 99), times.get(node, 99))
                            for units in (0, 3, 6):
                                self.assertGreaterEqual(short.get((less, units), 99), short.get((node, units), 99))
        self.assertGreater(pairs, 100)

    def test_more_time_for_an_answer_and_longer_pauses_never_harm(self):
        chance = random.Random(151)
        for site, starts, asking, _ in CASES:
            if asking.pause < 12 and is_won(site, starts, asking):
                for longer in (Asking(list(asking.places), asking.answer, asking.pause + 1),
                               Asking(list(asking.places), min(asking.answer + 1, 9), asking.pause + 1),
                               Asking(chance.sample(asking.places, len(asking.places) // 2), asking.answer, asking.pause)):
                    if raised(is_won, site, starts, longer) is None:
                        self.assertTrue(is_won(site, starts, longer))

    def test_deep_values(self):
        # Deep values are judged as other odd ones, wherever they stand.
        asking = Asking(["b"], 2, 4)
        deep = [nested("a", 50), nested(None, 50), deep_key(), nested(deep_key()[0], 1)]
        calls = [lambda value: are_walking(STAYING, ["a"], asking, value), lambda value: are_requesting(STAYING, ["a"], asking, value),
                 lambda value: are_stocked(STAYING, ["a"], 3, value), lambda value: are_safe(STAYING, ["a"], value),
                 lambda value: are_stocked_walking(STAYING, ["a"], asking, 4, value),
                 lambda value: are_toil_weights(STAYING, ["a"], (1, 5), value), lambda value: are_weights(LINE, ["a"], (0, 1), value)]
        tables = [walking_table(STAYING, ["a"], asking), requesting_table(STAYING, ["a"], asking), stock_table(STAYING, ["a"], 3),
                  safe_table(STAYING, ["a"]), stocked_walking(STAYING, ["a"], asking, 4), toil_weights(STAYING, ["a"]),
                  share_weights(LINE, ["a"])]
        for call, table in zip(calls, tables):
            self.assertTrue(call(table))
            for value in deep + any_values():
                self.assertIs(value == table, call(value))
                for key in list(table)[:2]:
                    if type(value) is not int:
                        self.assertIs(False, call({**table, key: value}))
            for key in list(table)[:2]:
                without = {other: told for other, told in table.items() if other != key}
                self.assertIs(False, call({**without, deep_key(): table[key]}))


if __name__ == "__main__":
    unittest.main()
