"""The names of the parameters of the interface, and what they are called by."""

import importlib
import inspect
import unittest

FUNCTIONS = {
    "sites": ["turned(site)", "with_limits(site, limits)"],
    "walks": ["start_of(site, starts)", "moves_from(site, standing)", "stepped(site, standing, move)",
              "has_breach(site, standing)", "followed(site, starts, run)"],
    "keeping": ["calm_standings(site, starts)", "safe_table(site, starts)", "time_table(site, starts)",
                "are_safe(site, starts, table)", "kept_plan(site, starts)", "is_plan(site, starts, plan)",
                "longest_time(site, starts)", "fewest_walkers(site, starts)"],
    "tours": ["greatest_waits(site, starts, tour)", "keeps_limits(site, starts, tour)", "distances(site, starts, standing)",
              "way_back(site, starts, standing)", "shortest_tour(site, starts)"],
    "limits": ["least_limit(site, starts, place)", "tight_limits(site, starts)", "stretch(site, starts)"],
    "late": ["least_share(site, starts)", "share_loop(site, starts)", "share_weights(site, starts)",
             "are_weights(site, starts, share, weights)"],
    "requests": ["calm_positions(site, starts, asking)", "is_won(site, starts, asking)",
                 "walking_table(site, starts, asking)", "requesting_table(site, starts, asking)",
                 "are_walking(site, starts, asking, table)", "are_requesting(site, starts, asking, table)"],
    "rules": ["keeps_list(site, starts, asking, rule, row)", "broken_list(site, starts, asking, rule)",
              "uncovered(site, starts, asking, first, second)"],
    "toil": ["toil_of(site, standing, move)", "run_toil(site, starts, run)", "least_toil(site, starts)",
             "restful_plan(site, starts)", "is_restful(site, starts, plan)", "toil_weights(site, starts)",
             "are_toil_weights(site, starts, share, weights)"],
    "stores": ["need_table(site, starts, size)", "stock_table(site, starts, size)",
               "are_stocked(site, starts, size, table)", "short_times(site, starts, size)", "least_size(site, starts)"],
    "stocked": ["need_positions(site, starts, asking, size)", "stocked_walking(site, starts, asking, size)",
                "are_stocked_walking(site, starts, asking, size, table)", "stocked_requesting(site, starts, asking, size)",
                "least_size_asked(site, starts, asking)"],
    "costs": ["rule_toil(site, starts, asking, rule)", "rule_weights(site, starts, asking, rule)",
              "are_rule_weights(site, starts, asking, rule, share, weights)", "rule_size(site, starts, asking, rule)"],
}
CLASSES = {
    "requests": {"Asking": ["__init__(self, places, answer, pause)"]},
    "rules": {"Rule": ["__init__(self, states)", "states(self)"]},
    "sessions": {"Session": [
        "__init__(self, site, starts)", "site(self)", "standing(self)", "deeds(self)", "move(self, move)",
        "set_limit(self, place, limit)", "open_way(self, first, second, steps)", "shut_way(self, first, second)",
        "add_walker(self, place)", "back(self)", "is_kept(self)", "longest(self)", "freedom(self)"]},
    "watches": {"Watch": [
        "__init__(self, site, starts, asking, size)", "position(self)", "units(self)", "deeds(self)", "toil(self)",
        "step(self, request, move)", "is_won(self)", "advice(self, request)", "back(self)"]},
}


class Names(unittest.TestCase):
    def agree(self, told, function):
        self.assertEqual(told, function.__name__ + str(inspect.signature(function)))

    def test_functions(self):
        for file, rows in FUNCTIONS.items():
            module = importlib.import_module("duewalk." + file)
            for told in rows:
                function = getattr(module, told.split("(")[0])
                self.assertEqual(module.__name__, function.__module__)
                self.agree(told, function)

    def test_classes(self):
        for file, classes in CLASSES.items():
            module = importlib.import_module("duewalk." + file)
            for name, rows in classes.items():
                self.assertEqual(module.__name__, getattr(module, name).__module__)
                for told in rows:
                    self.agree(told, vars(getattr(module, name))[told.split("(")[0]])
        site = importlib.import_module("duewalk.sites").Site
        self.assertIsInstance(vars(site)["parse"], staticmethod)
        self.agree("parse(text)", site.parse)


if __name__ == "__main__":
    unittest.main()
