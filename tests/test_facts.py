"""Points 2 and 22: what holds of sites and walks, whatever they are."""

import random
import unittest

from duewalk.errors import NoWay, TooLarge
from duewalk.keeping import calm_standings, fewest_walkers, longest_time, safe_table, time_table
from duewalk.late import least_share
from duewalk.limits import stretch, tight_limits
from duewalk.sites import Site, turned, with_limits
from duewalk.tours import keeps_limits, shortest_tour
from duewalk.walks import followed, has_breach
from oracles import CASES, raised, some_cases

RANDOM = some_cases(50, 120, 4, 250)


def is_kept(site, starts):
    return longest_time(site, starts) is None


def with_a_way_more(site, chance):
    """The site with one more way, or one more place where one may stay; the same one if there is none to add."""
    rows = [dict(row) for row in site.ways]
    stays = list(site.stays)
    at = chance.randrange(len(rows))
    ends = [name for name in site.names if name != site.names[at] and name not in rows[at]]
    if ends and chance.random() < 0.6:
        rows[at][chance.choice(ends)] = chance.randint(1, 3)
    else:
        stays[at] = True
    return Site(site.names, site.limits, stays, [sorted(row.items()) for row in rows])


class Facts(unittest.TestCase):
    def test_smaller_waits_are_never_worse(self):
        pairs = 0
        for site, starts in CASES + RANDOM[:40]:
            times = time_table(site, starts)
            safe = safe_table(site, starts)
            standings = calm_standings(site, starts)
            for walkers, waits in standings[:40]:
                for other, more in standings[:80]:
                    if walkers == other and all(wait <= later for wait, later in zip(waits, more)):
                        pairs += 1
                        if (walkers, waits) in times:
                            self.assertNotIn((other, more), safe)
                            self.assertGreaterEqual(times[walkers, waits], times[other, more])
        self.assertGreater(pairs, 200)

    def test_a_tour_that_keeps_the_limits_is_kept_from_the_beginning_on(self):
        tours = 0
        for site, starts in CASES + RANDOM:
            tour = shortest_tour(site, starts)
            if tour is not None:
                tours += 1
                self.assertTrue(keeps_limits(site, starts, tour))
                self.assertFalse(any(has_breach(site, one) for one in followed(site, starts, tour * 3)))
                self.assertTrue(is_kept(site, starts))
        self.assertGreater(tours, 30)

    def test_one_walker_may_begin_anywhere_and_go_the_other_way_round(self):
        kept = []
        for site, _ in CASES + RANDOM:
            answers = {is_kept(site, [name]) for name in site.names}
            self.assertEqual(1, len(answers), str(site))
            kept.extend(answers)
            if raised(turned, site) is None:
                self.assertEqual(answers, {is_kept(turned(site), [name]) for name in site.names}, str(site))
            else:
                self.assertEqual(NoWay, raised(turned, site)[0])
        self.assertGreater(min(sum(kept), len(kept) - sum(kept)), 20)

    def test_more_never_harms(self):
        chance = random.Random(51)
        for site, starts in CASES + RANDOM:
            if is_kept(site, starts):
                wider = with_limits(site, [min(9, limit + chance.randint(0, 1)) for limit in site.limits])
                for other in (wider, with_a_way_more(site, chance)):
                    if raised(longest_time, other, starts) is None:
                        self.assertTrue(is_kept(other, starts), (str(site), str(other)))
                more = starts + [chance.choice(site.names)]
                if len(more) == 2:
                    self.assertEqual(1, fewest_walkers(site, more))
                    self.assertIn(raised(longest_time, site, more), (None, (TooLarge,)))
                    if raised(longest_time, site, more) is None:
                        self.assertTrue(is_kept(site, more))

    def test_stretch_and_tight_limits_agree_with_being_kept(self):
        for site, starts in CASES + RANDOM:
            if is_kept(site, starts):
                self.assertEqual(0, stretch(site, starts))
                tight = with_limits(site, tight_limits(site, starts))
                self.assertTrue(is_kept(tight, starts))
            elif raised(stretch, site, starts) is None:
                self.assertNotEqual(0, stretch(site, starts))

    def test_less_is_late_with_greater_limits(self):
        for site, starts in CASES + RANDOM[:40]:
            top, bottom = least_share(site, starts)
            wider = with_limits(site, [min(9, limit + 1) for limit in site.limits])
            if raised(least_share, wider, starts) is None:
                other_top, other_bottom = least_share(wider, starts)
                self.assertLessEqual(other_top * bottom, top * other_bottom)

    def test_safe_and_lost_standings_are_all_calm_ones(self):
        for site, starts in CASES + RANDOM:
            safe, lost = safe_table(site, starts), time_table(site, starts)
            self.assertEqual(set(calm_standings(site, starts)), set(safe) | set(lost))
            self.assertEqual(set(), set(safe) & set(lost))


if __name__ == "__main__":
    unittest.main()
