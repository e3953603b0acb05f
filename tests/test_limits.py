"""Points 2, 3, 13 and 22, with duewalk/limits.py."""

import unittest

from anyvalues import any_values, nested
from duewalk.errors import BadStarts, NotKept, TooLarge, UnknownPlace
from duewalk.limits import least_limit, stretch, tight_limits
from duewalk.sites import Site, with_limits
from oracles import (
    CASES, FAR_PAIR, LINE, NO_WAY_TO, ONE, PAIR, RING, SHORT_LINE, TIGHT_LINE, WIDE_LINE, calm_graph, is_kept, raised,
    size_of, some_cases)
from test_keeping import SMALL_ENOUGH, TOO_LARGE

RANDOM = some_cases(30, 60, 4, 250)
KEPT = [(site, starts) for site, starts in CASES + RANDOM if is_kept(site, starts)]
LOST = [(site, starts) for site, starts in CASES + RANDOM if not is_kept(site, starts)]
LARGE = [(Site.parse(text), starts) for text, starts, _, _ in TOO_LARGE]


def least_by_point_13(site, starts, at):
    """The least limit of the place with a number, tried from 0 on."""
    limits = list(site.limits)
    for limit in range(10):
        limits[at] = limit
        if is_kept(with_limits(site, limits), starts):
            return limit
    return None


def greater(site, more):
    """The site with all limits greater, also above 9."""
    return Site(site.names, [limit + more for limit in site.limits], site.stays, site.ways)


def is_too_large(site, starts):
    standings, moves = size_of(site, starts, calm_graph(site, starts, 601))
    return standings > 600 or moves > 4000


class LeastLimits(unittest.TestCase):
    def test_examples_of_the_document(self):
        self.assertEqual(3, least_limit(WIDE_LINE, ["a"], "a"))
        self.assertEqual([3, 1, 3], tight_limits(WIDE_LINE, ["a"]))

    def test_limits_of_0_and_9(self):
        self.assertEqual(0, least_limit(ONE, ["a"], "a"))
        self.assertEqual([0], tight_limits(site=ONE, starts=["a", "a"]))
        self.assertEqual(0, least_limit(Site.parse("a 9 stay"), ["a"], "a"))
        self.assertEqual([0, 0], tight_limits(Site.parse("a 9 -> b 1\nb 9 -> a 1"), ["a", "b"]))
        self.assertEqual([1, 1], tight_limits(Site.parse("a 9 -> b 1\nb 9 -> a 1"), ["a", "a"]))
        self.assertEqual([9, 9, 9, 9], tight_limits(Site.parse("a 9 -> b 3\nb 9 -> c 3\nc 9 -> d 3\nd 9 -> a 1"), ["a"]))
        self.assertEqual([5, 5], tight_limits(FAR_PAIR, ["b"]))
        self.assertEqual(5, least_limit(Site.parse("a 9 -> b 3\nb 9 -> a 3"), ["b"], "b"))
        self.assertEqual([0, 0], tight_limits(Site.parse("a 0 stay\nb 9 stay"), ["a", "b"]))

    def test_the_order_of_the_places(self):
        # Whichever limit is lowered first is lowered most.
        site = Site.parse("a 9 stay -> b 1 c 1\nb 9 -> a 1\nc 9 -> a 1")
        self.assertEqual([1, 3, 3], tight_limits(site, ["a"]))
        site = Site.parse("a 9 -> c 1\nb 9 -> c 1\nc 9 -> a 1 b 1")
        self.assertEqual([3, 3, 1], tight_limits(site, ["b"]))
        site = Site.parse("a 9 -> b 1 c 1\nb 9 -> a 1 c 1\nc 9 -> a 1 b 1")
        self.assertEqual([1, 3, 3], tight_limits(site, ["a"]))
        self.assertEqual([1, 1, 1], [least_limit(site, ["a"], name) for name in "abc"])
        self.assertEqual([2, 2, 2], tight_limits(with_limits(site, [2, 2, 2]), ["a"]))

    def test_by_the_words_of_point_13(self):
        less = 0
        for site, starts in KEPT:
            limits = [least_limit(site, starts, name) for name in site.names]
            self.assertEqual([least_by_point_13(site, starts, at) for at in range(len(limits))], limits)
            less += limits != list(site.limits)
            tight = tight_limits(site, starts)
            self.assertEqual([list, int], [type(tight), type(tight[0])])
            by_words = site
            for at in range(len(tight)):
                self.assertEqual(least_by_point_13(by_words, starts, at), tight[at])
                by_words = with_limits(by_words, tight[:at + 1] + list(by_words.limits[at + 1:]))
            self.assertEqual(tight, list(by_words.limits))
            self.assertEqual(tight, tight_limits(by_words, starts))
        self.assertGreater(less, 20)

    def test_no_places(self):
        wrong = ["d", "A", "", "a ", "ab", ("a",), ["a"], {"a": 0}, 0, None, True, nested("a", 50), b"a"]
        for site, starts in ((LINE, ["a"]), (TIGHT_LINE, ["a"]), LARGE[0]):
            names = list(site.names)
            for value in wrong + any_values():
                if value not in names:
                    self.assertEqual((UnknownPlace, value), raised(least_limit, site, starts, value))
                    self.assertEqual((BadStarts,), raised(least_limit, site, tuple(starts), value))

    def test_not_kept(self):
        self.assertEqual((NotKept,), raised(least_limit, TIGHT_LINE, ["a"], "c"))
        self.assertEqual((NotKept,), raised(tight_limits, site=PAIR, starts=["a"]))
        self.assertEqual((NotKept,), raised(least_limit, site=NO_WAY_TO, starts=["a"], place="b"))
        for site, starts in LOST:
            for name in site.names:
                self.assertEqual((NotKept,), raised(least_limit, site, starts, name))
            self.assertEqual((NotKept,), raised(tight_limits, site, starts))

    def test_no_starts(self):
        for value in any_values() + [["z"], ("a",), "a", ["a", "b", "c"]]:
            for site in (LINE, TIGHT_LINE, LARGE[0][0]):
                self.assertEqual((BadStarts,), raised(least_limit, site, value, "a"))
                self.assertEqual((BadStarts,), raised(least_limit, site, value, None))
                self.assertEqual((BadStarts,), raised(tight_limits, site, value))

    def test_sizes(self):
        for site, starts in LARGE:
            self.assertTrue(is_too_large(site, starts))
            for name in site.names:
                self.assertEqual((TooLarge,), raised(least_limit, site, starts, name))
            self.assertEqual((TooLarge,), raised(tight_limits, site, starts))
        # One of the large ones at least is not kept, too.
        site = Site.parse("a 0 -> b 1 c 1 d 1\nb 9 stay -> a 1 c 1 d 1\nc 9 stay -> a 1 b 1 d 1\nd 9 stay -> a 1 b 1 c 1")
        self.assertEqual((TooLarge,), raised(tight_limits, site, ["b", "c"]))
        for text, starts, _, _ in SMALL_ENOUGH:
            site = Site.parse(text)
            if not is_kept(site, starts):
                self.assertEqual((NotKept,), raised(least_limit, site, starts, "a"))
                self.assertEqual((NotKept,), raised(tight_limits, site, starts))
            else:
                for at, name in enumerate(site.names[:2]):
                    self.assertEqual(least_by_point_13(site, starts, at), least_limit(site, starts, name))
                self.assertTrue(is_kept(with_limits(site, tight_limits(site, starts)), starts))

    def test_results_are_new(self):
        starts = ["a"]
        tight_limits(WIDE_LINE, starts).clear()
        self.assertEqual([3, 1, 3], tight_limits(WIDE_LINE, starts))
        self.assertEqual((["a"], (9, 9, 9)), (starts, WIDE_LINE.limits))


class Stretches(unittest.TestCase):
    def test_example_of_the_document(self):
        self.assertEqual(2, stretch(SHORT_LINE, ["a"]))

    def test_0_and_9_and_none(self):
        self.assertEqual(0, stretch(LINE, ["a"]))
        self.assertEqual(0, stretch(site=PAIR, starts=["a", "b"]))
        self.assertEqual(1, stretch(PAIR, ["a", "a"]))
        self.assertEqual(1, stretch(TIGHT_LINE, ["b"]))
        # A ring of n steps needs limits of n - 1, here of 17.
        ring = [f"{name} %d -> {end} 3" for name, end in zip("abcdef", "bcdefa")]
        self.assertEqual(8, stretch(Site.parse("\n".join(row % 9 for row in ring)), ["d"]))
        self.assertEqual(9, stretch(Site.parse("\n".join(row % 8 for row in ring)), ["d"]))
        self.assertIsNone(stretch(Site.parse("\n".join(row % 7 for row in ring)), ["d"]))
        self.assertIsNone(stretch(Site.parse("a 0 stay\nb 0 stay"), ["a"]))
        self.assertIsNone(stretch(NO_WAY_TO, ["b"]))
        self.assertEqual(0, stretch(RING, ["a"]))

    def test_by_the_words_of_point_13(self):
        told = {}
        for site, starts in CASES + RANDOM + some_cases(31, 100, 4, 100):
            kept = None
            for more in range(10):
                if is_too_large(greater(site, more), starts):
                    kept = TooLarge
                    break
                if is_kept(greater(site, more), starts):
                    kept = more
                    break
            if kept is TooLarge:
                self.assertEqual((TooLarge,), raised(stretch, site, starts))
            else:
                self.assertEqual(kept, stretch(site, starts), (str(site), starts))
            told[kept] = told.get(kept, 0) + 1
        self.assertLessEqual({0, 1, 2, 3, None}, set(told))

    def test_too_large(self):
        for site, starts in LARGE:
            self.assertEqual((TooLarge,), raised(stretch, site, starts))
        # Small at first, but too large ahead of being kept.
        site, starts = Site.parse("a 0 stay -> b 2\nb 7 stay -> a 1\nc 8 -> b 1"), ["c", "c"]
        self.assertFalse(is_too_large(site, starts))
        self.assertTrue(is_too_large(greater(site, 9), starts))
        self.assertEqual((TooLarge,), raised(stretch, site, starts))
        # Kept with limits that are less than those with which it is too large.
        site, starts = Site.parse("a 2 -> c 3\nb 7 -> a 3\nc 1 stay -> a 1 b 3"), ["a", "b"]
        self.assertEqual(2, stretch(site, starts))
        self.assertTrue(is_too_large(greater(site, 9), starts))

    def test_no_starts(self):
        for value in any_values() + [["z"], ("a",), "a"]:
            self.assertEqual((BadStarts,), raised(stretch, LINE, value))
            self.assertEqual((BadStarts,), raised(stretch, LARGE[0][0], value))

    def test_nothing_changes(self):
        starts = ["a"]
        self.assertEqual([2, 2], [stretch(SHORT_LINE, starts), stretch(SHORT_LINE, starts)])
        self.assertEqual((["a"], (1, 1, 1)), (starts, SHORT_LINE.limits))


if __name__ == "__main__":
    unittest.main()
