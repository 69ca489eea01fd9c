"""The examples of the document, as they stand in it, and those of README.md."""

import doctest
import os
import unittest

POINTS = {
    8: """
    >>> from indentsteps.texts import is_text, is_wish
    >>> [is_text((0, 21)), is_wish((None, 3))]
    [False, True]
""",
    9: """
    >>> from indentsteps.texts import is_script
    >>> is_script(3, (("in", 0, 4),))
    False
""",
    10: """
    >>> from indentsteps.commands import apply
    >>> apply((0, 2, 1), (("out", 0, 3), ("in", 1, 2)))
    (0, 2, 0)
""",
    11: """
    >>> from indentsteps.commands import idle
    >>> idle((0, 0, 1), (("out", 0, 2), ("out", 0, 3), ("out", 0, 3)))
    [0, 2]
""",
    12: """
    >>> from indentsteps.distances import distance
    >>> [distance((0, 3, 0, 3, 0), (0, 0, 0, 0, 0)), distance((1, 1, 1), (2, None, 2))]
    [3, 1]
""",
    13: """
    >>> from indentsteps.distances import best_counts
    >>> best_counts((2,), (0,))
    ((2,), (0,))
""",
    14: """
    >>> from indentsteps.distances import counts_cost
    >>> counts_cost((3, 3, 3, 3, 3), (0, 1, 0, 2, 1))
    6
""",
    15: """
    >>> from indentsteps.distances import is_certificate
    >>> is_certificate((0, 3, 0), (0, 0, 0), ((3, 3, 3), (0, 0, 0)))
    True
""",
    16: """
    >>> from indentsteps.distances import plan
    >>> len(plan((0, 3, 0, 3, 0), (0, 0, 0, 0, 0)))
    3
""",
    17: """
    >>> from indentsteps.scripts import effects
    >>> effects(2, (("in", 0, 2), ("out", 0, 1), ("out", 0, 2)))
    [(-1, 0), (0, 0)]
""",
    18: """
    >>> from indentsteps.scripts import difference
    >>> [difference(1, (("out", 0, 1), ("in", 0, 1)), ()), difference(2, (("out", 1, 2),), ())]
    [(0, 0), (1, 1)]
""",
    19: """
    >>> from indentsteps.scripts import equal
    >>> equal(1, (("in", 0, 1), ("out", 0, 1)), ())
    True
""",
    20: """
    >>> from indentsteps.scripts import commute
    >>> commute(("in", 0, 2), ("out", 1, 3))
    False
""",
    21: """
    >>> from indentsteps.scripts import fewest_equal
    >>> fewest_equal(3, (("in", 0, 3), ("out", 1, 2)))
    2
""",
    22: """
    >>> from indentsteps.scripts import shortest_equal
    >>> shortest_equal(1, (("out", 0, 1), ("in", 0, 1), ("out", 0, 1)))
    (('out', 0, 1),)
""",
    23: """
    >>> from indentsteps.scripts import sources
    >>> [sources((("out", 0, 2),), (0, 1)), sources((("in", 0, 1),), (0,))]
    [[(0, 1), (2, 2)], None]
""",
    24: """
    >>> from indentsteps.search import count_plans
    >>> count_plans((0, 0, 0), (1, 0, 1))
    3
""",
    25: """
    >>> from indentsteps.search import hidden_commands
    >>> hidden_commands((0, 1), (), 0, (0, 0))
    [('out', 0, 2), ('out', 1, 2)]
""",
}

README = os.path.join(os.path.dirname(os.path.abspath(__file__)), "..", "README.md")


class Examples(unittest.TestCase):

    def check(self, name, text):
        examples = doctest.DocTestParser().get_doctest(text, {}, name, None, 0)
        self.assertTrue(examples.examples, name)
        said = []
        results = doctest.DocTestRunner().run(examples, out=said.append)
        self.assertEqual(results.failed, 0, "".join(said))

    def test_points_of_the_document(self):
        for point, text in POINTS.items():
            with self.subTest(point=point):
                self.check(f"point {point}", text)

    def test_readme(self):
        with open(README, encoding="utf-8") as file:
            self.check("README.md", file.read())


if __name__ == "__main__":
    unittest.main()
