"""The examples of the document's interface, as they stand there.

>>> from duewalk.sites import Site
>>> site = Site.parse("a 3 -> b 1\\nb 1 -> a 1 c 1\\nc 3 -> b 1")
>>> [site.names, site.limits, site.stays, site.ways[1]]
[('a', 'b', 'c'), (3, 1, 3), (False, False, False), (('a', 1), ('c', 1))]

>>> from duewalk.sites import Site
>>> from duewalk.walks import followed
>>> site = Site.parse("a 3 -> b 1\\nb 1 -> a 1 c 1\\nc 3 -> b 1")
>>> followed(site, ["a"], [("b",), ("c",)])
[((('b', 0),), (1, 0, 1)), ((('c', 0),), (2, 1, 0))]

>>> from duewalk.sites import Site
>>> from duewalk.keeping import longest_time, time_table
>>> site = Site.parse("a 3 -> b 1\\nb 1 -> a 1 c 1\\nc 2 -> b 1")
>>> [longest_time(site, ["a"]), sorted(time_table(site, ["a"]).values())]
[4, [0, 1, 2, 3, 4]]

>>> from duewalk.sites import Site
>>> from duewalk.tours import greatest_waits
>>> site = Site.parse("a 3 -> b 1\\nb 1 -> a 1 c 1\\nc 3 -> b 1")
>>> greatest_waits(site, ["a"], [("b",), ("c",), ("b",), ("a",)]) == {"a": 3, "b": 1, "c": 3}
True

>>> from duewalk.sites import Site
>>> from duewalk.limits import least_limit, stretch, tight_limits
>>> site = Site.parse("a 9 -> b 1\\nb 9 -> a 1 c 1\\nc 9 -> b 1")
>>> other = Site.parse("a 1 -> b 1\\nb 1 -> a 1 c 1\\nc 1 -> b 1")
>>> [least_limit(site, ["a"], "a"), tight_limits(site, ["a"]), stretch(other, ["a"])]
[3, [3, 1, 3], 2]

>>> from duewalk.sites import Site
>>> from duewalk.late import least_share
>>> site = Site.parse("a 3 -> b 1\\nb 1 -> a 1 c 1\\nc 2 -> b 1")
>>> least_share(site, ["a"])
(1, 4)

>>> from duewalk.sites import Site
>>> from duewalk.requests import Asking, is_won
>>> site = Site.parse("a 9 -> b 1\\nb 9 -> a 1 c 1\\nc 9 -> b 1")
>>> [is_won(site, ["a"], Asking(["c"], 2, 2)), is_won(site, ["a"], Asking(["c"], 2, 3))]
[False, True]

>>> from duewalk.sites import Site
>>> from duewalk.sessions import Session
>>> site = Site.parse("a 3 -> b 1\\nb 1 -> a 1 c 1\\nc 3 -> b 1")
>>> session = Session(site, ["a"])
>>> [session.is_kept(), session.freedom(), session.move(("b",)), session.standing(), session.deeds()]
[True, 4, None, ((('b', 0),), (1, 0, 1)), 1]

>>> from duewalk.sites import Site
>>> from duewalk.toil import least_toil, run_toil
>>> site = Site.parse("a 9 stay -> b 1\\nb 9 -> a 1")
>>> [least_toil(site, ["a"]), run_toil(site, ["a"], [("a",), ("b",), ("a",)])]
[(1, 5), 2]

>>> from duewalk.sites import Site
>>> from duewalk.stores import least_size, need_table
>>> site = Site.parse("a 9 stay -> b 1\\nb 9 -> a 1")
>>> needs = need_table(site, ["a"], 2)
>>> [least_size(site, ["a"]), needs[(("a", 0),), (0, 9)], needs[(("b", 0),), (1, 0)], len(needs)]
[2, 2, 1, 11]
"""

import doctest
import os
import unittest

DOCUMENT = os.path.join(os.path.dirname(os.path.abspath(__file__)), os.pardir, os.pardir, "shared", "DOC.md")


class Examples(unittest.TestCase):
    def run_all(self, text, least):
        examples = doctest.DocTestParser().get_examples(text)
        self.assertGreaterEqual(len(examples), least)
        test = doctest.DocTestParser().get_doctest(text, {}, "examples", None, 0)
        self.assertEqual(0, doctest.DocTestRunner(verbose=False).run(test).failed)

    def test_as_they_stand_here(self):
        self.run_all(__doc__, 42)

    def test_as_they_stand_in_the_document(self):
        if os.path.exists(DOCUMENT):
            with open(DOCUMENT, encoding="utf-8") as file:
                self.run_all(file.read().replace("```", ""), 1)


if __name__ == "__main__":
    unittest.main()
