"""Points 3, 4 and 5, with duewalk/sites.py."""

import random
import re
import unittest

from anyvalues import any_values, nested
from duewalk.errors import InvalidText, NoWay, WalkError
from duewalk.sites import Site, turned, with_limits

LINE = "a 3 -> b 1\nb 1 -> a 1 c 1\nc 3 -> b 1"
SIX = "\n".join(f"{name} {limit} stay" for limit, name in enumerate("abcdef"))

RIGHT = [
    LINE,
    "a 0 stay",
    "abcdefgh 9 stay",
    "a 0 -> b 3\nb 9 -> a 2",
    "b 3 -> a 1\na 3 -> b 1",
    "b 5 stay -> a 1 ab 2 c 3\na 5 stay\nab 5 stay\nc 5 stay",
    "stay 3 stay -> to 1\nto 3 -> stay 1",
    "stay 3 -> stays 1\nstays 3 -> stay 1",
    "none 1 stay\ntrue 2 stay",
    "a 1 stay\nb 2 -> a 3",
    SIX,
    "\n".join(f"{name} 9 stay -> " + " ".join(f"{end} 3" for end in "abcdef" if end != name) for name in "abcdef"),
]


def row_of(text):
    """The number of the row that is not right, None for a right text."""
    try:
        Site.parse(text)
    except InvalidText as error:
        return error.row
    return None


def expected_row(text):
    """The same by point 5, told in another way."""
    rows = text.split("\n")
    firsts = [re.match("[^ ]*", row).group() for row in rows]
    form = re.compile(r"([a-z]{1,8}) [0-9](?: stay)?( ->(?: [a-z]{1,8} [123])+)?")
    for number, row in enumerate(rows):
        found = form.fullmatch(row)
        if number >= 6 or not found or firsts[number] in firsts[:number]:
            return number
        ends = re.findall("([a-z]+) [123]", found.group(2) or "")
        if ends != sorted(set(ends)) or found.group(1) in ends or not set(ends) <= set(firsts):
            return number
        if not ends and not row.endswith(" stay"):
            return number
    return None


class Texts(unittest.TestCase):
    def test_read_and_told_again(self):
        for text in RIGHT:
            with self.subTest(text):
                self.assertEqual(text, str(Site.parse(text)))
                self.assertEqual(text, str(Site.parse(text=text)))

    def test_example_of_the_document(self):
        site = Site.parse(LINE)
        self.assertEqual(("a", "b", "c"), site.names)
        self.assertEqual((3, 1, 3), site.limits)
        self.assertEqual((False, False, False), site.stays)
        self.assertEqual((("a", 1), ("c", 1)), site.ways[1])

    def test_attributes(self):
        site = Site.parse("b 0 stay\nstay 9 stay -> a 3 b 2\na 5 -> stay 1")
        self.assertEqual(("b", "stay", "a"), site.names)
        self.assertEqual((0, 9, 5), site.limits)
        self.assertEqual((True, True, False), site.stays)
        self.assertEqual(((), (("a", 3), ("b", 2)), (("stay", 1),)), site.ways)
        for value in (site.names, site.limits, site.stays, site.ways, site.ways[1], site.ways[1][0]):
            self.assertIs(tuple, type(value))
        self.assertEqual([bool] * 3, [type(stay) for stay in site.stays])
        self.assertEqual([int] * 3, [type(limit) for limit in site.limits])
        self.assertIs(int, type(site.ways[1][0][1]))

    def test_methods_stand_in_the_class(self):
        for name in ("parse", "__str__", "__eq__"):
            self.assertIn(name, Site.__dict__)
        self.assertIsInstance(Site.__dict__["parse"], staticmethod)

    def test_each_limit_and_each_number_of_steps(self):
        for limit in range(10):
            self.assertEqual((limit,), Site.parse(f"a {limit} stay").limits)
        for steps in (1, 2, 3):
            self.assertEqual((("b", steps),), Site.parse(f"a 1 -> b {steps}\nb 1 stay").ways[0])

    def test_one_to_six_rows(self):
        rows = SIX.split("\n")
        for many in range(1, 7):
            self.assertEqual(many, len(Site.parse("\n".join(rows[:many])).names))
        self.assertEqual(6, row_of(SIX + "\ng 1 stay"))
        self.assertEqual(6, row_of(SIX + "\ng 1 stay\nh 1 stay\n"))
        self.assertEqual(6, row_of(SIX + "\nno"))
        self.assertEqual(6, row_of(SIX + "\n"))
        self.assertEqual(3, row_of("\n".join(rows[:3]) + "\nno\n" + "\n".join(rows[3:])))

    def test_no_strings(self):
        values = [value for value in any_values() if not isinstance(value, str)]
        for value in values + [[LINE], (LINE,), {LINE: LINE}, LINE.split("\n"), nested(LINE, 50), b"a 3 stay"]:
            self.assertEqual(0, row_of(value))

    def test_wrong_rows(self):
        wrong = [
            "", " ", "a", "a 3", "a3 stay", "a stay", "3 stay", "stay 3", "stay",
            "A 3 stay", "aB 3 stay", "a1 3 stay", "a_b 3 stay", "\u00e9 3 stay", "\u0430 3 stay", "abcdefghi 3 stay",
            "a 10 stay", "a 05 stay", "a 00 stay", "a -1 stay", "a +1 stay", "a x stay", "a 3. stay", "a \u0663 stay",
            "a \u00b2 stay", "a 12 stay", "a 1_0 stay", "a  stay",
            "a 3 Stay", "a 3 stays", "a 3 stay stay", "a 3 sta", "a 3 ->", "a 3 stay ->", "a 3 -> stay", "a 3 b 1",
            "a 3 stay b 1", "a 3 - > b 1", "a 3 > b 1", "a 3 ->b 1", "a 3 -> -> b 1", "a 3 -> b 1 stay", "-> 3 stay",
            "a 3 -> b", "a 3 -> b 0", "a 3 -> b 4", "a 3 -> b 01", "a 3 -> b 10", "a 3 -> b 12", "a 3 -> b -1",
            "a 3 -> b x", "a 3 -> b 1 c", "a 3 -> b c", "a 3 -> 1 b", "a 3 -> b 1 1", "a 3 -> b \u0661",
            "a 3 -> a 1", "a 3 stay -> a 1", "a 3 -> a 1 b 1", "a 3 -> c 1 b 1", "a 3 -> b 1 b 1", "a 3 -> b 1 b 2",
            "a 3 -> d 1", "a 3 stay -> b 1 d 1", "a 3 -> B 1",
            " a 3 stay", "a 3 stay ", "a  3 stay", "a 3  stay", "a 3 stay  -> b 1", "a 3 stay ->  b 1",
            "a 3 stay -> b  1", "a 3 stay -> b 1  c 1", "a 3 -> b 1 ", "a 3 -> ", "a 3 stay -> ",
            "a\t3 stay", "a 3\tstay", "a 3 stay\t", "\ta 3 stay", "a 3 stay\r", "a 3 stay\x0b", "a 3 stay\x00",
            "a\u00a03 stay", "a 3 stay\u2028",
        ]
        for row in wrong:
            with self.subTest(row):
                self.assertEqual(0, row_of(row + "\nb 3 stay\nc 3 stay"))
                self.assertEqual(1, row_of("b 3 stay\n" + row + "\nc 3 stay"))
                self.assertEqual(2, row_of("b 3 stay\nc 3 stay\n" + row))
                self.assertEqual(0, row_of(row))

    def test_newlines(self):
        self.assertEqual(1, row_of("a 3 stay\n"))
        self.assertEqual(3, row_of(LINE + "\n"))
        self.assertEqual(0, row_of("\na 3 stay"))
        self.assertEqual(1, row_of("a 3 stay\n\nb 3 stay"))
        self.assertEqual(0, row_of("a 3 stay\r\nb 3 stay"))
        self.assertEqual(0, row_of("\n"))

    def test_a_name_twice(self):
        self.assertEqual(1, row_of("a 3 stay\na 3 stay"))
        self.assertEqual(2, row_of("a 3 stay\nb 3 stay\na 4 -> b 1"))
        self.assertEqual(2, row_of("a 3 -> b 1\nb 3 -> a 1\nb 3 -> a 1\na"))

    def test_ends_are_first_words_of_any_rows(self):
        self.assertIsNone(row_of("a 3 -> b 1\nb 3 -> a 1"))
        self.assertEqual(0, row_of("a 3 -> b 1\nc 3 -> a 1"))
        self.assertEqual(1, row_of("a 3 -> b 1\nb 3 -> c 1"))
        # The row of b is not right, but b is its first word all the same.
        self.assertEqual(1, row_of("a 3 -> b 1\nb"))
        self.assertEqual(1, row_of("a 3 -> b 1\nb 10 stay"))
        self.assertEqual(2, row_of("a 3 -> c 1\nb 3 -> c 1\nc wrong -> a 1"))
        # Behind the sixth row, too.
        self.assertEqual(6, row_of("a 1 -> g 1\n" + SIX.split("\n", 1)[1] + "\ng 1 stay"))
        self.assertEqual(0, row_of("a 1 -> h 1\n" + SIX.split("\n", 1)[1] + "\ng 1 stay"))
        # What has not the form of a name is none, though it is a first word; nor is what a tab or a blank parts.
        self.assertEqual(0, row_of("a 3 -> B 1\nB 3 -> a 1"))
        self.assertEqual(0, row_of("a 3 ->  1\n"))
        self.assertEqual(0, row_of("a 3 -> b 1\nb\t3 -> a 1"))
        self.assertEqual(0, row_of("a 3 -> b 1\n b 3 -> a 1"))

    def test_too_many_ways_are_not_looked_at(self):
        first = "a 1 -> " + " ".join(f"{end} 1" for end in "bcdefgh")
        rest = "\n".join(f"{name} 1 stay" for name in "bcdefgh")
        self.assertEqual(6, row_of(first + "\n" + rest))

    def test_the_first_row_that_is_not_right(self):
        self.assertEqual(0, row_of("a\nb\nc"))
        self.assertEqual(1, row_of("a 1 stay\nb\na 1 stay"))
        self.assertEqual(0, row_of("a 1 -> x 1\na 1 stay\n"))

    def test_texts_with_one_thing_changed(self):
        chance = random.Random(5)
        pieces = [" ", "\n", "a", "b", "z", "0", "1", "4", "->", "stay", "", "\t", " -> b 1", " stay", "-", "B", "\nd"]
        for _ in range(4000):
            text = chance.choice(RIGHT)
            for _ in range(chance.randrange(1, 3)):
                low = chance.randrange(len(text) + 1)
                high = min(len(text), low + chance.randrange(3))
                text = text[:low] + chance.choice(pieces) + text[high:]
            self.assertEqual(expected_row(text), row_of(text), repr(text))

    def test_texts_with_rows_and_words_changed_about(self):
        chance = random.Random(6)
        rows = [row for text in RIGHT for row in text.split("\n")] + ["", "a", "b 3", "c 9 stay"]
        for _ in range(4000):
            picked = [chance.choice(rows) for _ in range(chance.randrange(1, 9))]
            text = "\n".join(picked)
            self.assertEqual(expected_row(text), row_of(text), repr(text))


class Equality(unittest.TestCase):
    def test_equal_exactly_if_the_texts_are(self):
        texts = RIGHT + [
            LINE.replace("3", "4"), LINE.replace("b 1", "b 2"), "a 1 stay", "b 0 stay", "a 0 stay -> b 3\nb 9 -> a 2",
            "a 3 -> b 1\nb 3 -> a 1", "a 0 stay\nb 1 stay", "a 0 -> b 2\nb 9 -> a 2", "a 0 -> b 3\nb 9 -> a 1",
        ]
        for first in texts:
            for second in texts:
                one, other = Site.parse(first), Site.parse(second)
                self.assertIs(first == second, one == other)
                self.assertIs(first != second, one != other)

    def test_no_other_value_is_equal_to_a_site(self):
        site = Site.parse(LINE)
        parts = (site.names, site.limits, site.stays, site.ways)
        for value in any_values() + [LINE, [site], (site,), parts, list(parts)]:
            self.assertIs(False, site == value)
            self.assertIs(False, value == site)
            self.assertIs(True, site != value)
            self.assertIs(True, value != site)


class Turned(unittest.TestCase):
    def test_steps_and_the_order_of_the_names(self):
        site = Site.parse("c 1 stay -> b 3\na 2 -> b 1 c 2\nb 3 stay -> a 2")
        self.assertEqual("c 1 stay -> a 2\na 2 -> b 2\nb 3 stay -> a 1 c 3", str(turned(site)))
        self.assertEqual("c 1 stay -> b 3\na 2 -> b 1 c 2\nb 3 stay -> a 2", str(site))
        self.assertEqual(turned(site), turned(site=site))
        one = Site.parse("a 4 stay")
        self.assertEqual(one, turned(one))

    def test_no_way(self):
        self.refused("a 1 -> b 1\nb 1 -> c 1\nc 1 -> b 1", "a")
        self.refused("c 1 -> a 1\na 1 -> c 1\nb 1 -> a 1", "b")
        self.refused("b 1 -> c 1\na 1 -> c 1\nc 1 stay", "b")
        self.refused("z 1 -> c 1\na 1 stay -> c 1\nb 1 -> c 1\nc 1 stay", "z")
        self.refused("a 1 stay -> c 1\nb 1 -> c 1\nz 1 -> c 1\nc 1 stay", "b")

    def refused(self, text, place):
        with self.assertRaises(NoWay) as caught:
            turned(Site.parse(text))
        self.assertEqual(place, caught.exception.place)

    def test_places_where_one_may_stay_need_no_way(self):
        site = Site.parse("a 1 stay -> b 1\nb 1 stay")
        self.assertEqual("a 1 stay\nb 1 stay -> a 1", str(turned(site)))

    def test_turned_twice(self):
        for text in RIGHT:
            site = Site.parse(text)
            try:
                back = turned(site)
            except WalkError as error:
                self.assertIsInstance(error, NoWay)
                continue
            self.assertEqual(text, str(turned(back)))
            self.assertEqual(back, Site.parse(str(back)))
            self.assertEqual(sorted(self.triples(site)), sorted((b, a, steps) for a, b, steps in self.triples(back)))

    def triples(self, site):
        return [(name, end, steps) for name, ways in zip(site.names, site.ways) for end, steps in ways]

    def test_a_site_that_can_be_turned_once_only(self):
        # The turned site of a site is one again, so that turning it is never refused.
        site = Site.parse("a 1 stay -> b 1\nb 1 -> c 2\nc 1 -> b 1")
        self.assertEqual(site, turned(turned(site)))


class WithLimits(unittest.TestCase):
    def test_the_other_parts_are_kept(self):
        site = Site.parse("a 3 stay -> b 1\nb 1 -> a 2 c 1\nc 3 -> b 1")
        self.assertEqual("a 0 stay -> b 1\nb 9 -> a 2 c 1\nc 5 -> b 1", str(with_limits(site, [0, 9, 5])))
        self.assertEqual(with_limits(site, [1, 2, 3]), with_limits(site=site, limits=[1, 2, 3]))
        self.assertEqual(site, with_limits(site, [3, 1, 3]))
        self.assertEqual((0, 9, 5), with_limits(site, [0, 9, 5]).limits)

    def test_the_site_and_the_list_stay(self):
        site = Site.parse(LINE)
        limits = [4, 5, 6]
        other = with_limits(site, limits)
        self.assertEqual([4, 5, 6], limits)
        limits[0] = 9
        limits.append(7)
        self.assertEqual((4, 5, 6), other.limits)
        self.assertEqual(LINE, str(site))
        self.assertNotEqual(site, other)


if __name__ == "__main__":
    unittest.main()
