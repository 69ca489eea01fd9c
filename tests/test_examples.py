"""The examples of the document, as they stand in it, and those of README.md."""

import doctest
import os
import unittest

POINTS = {
    8: """
    >>> from indentsteps.texts import is_text, is_wish
    >>> [is_text((0, 21)), is_wish((None, 3))]
    [False, True]
""",
    9: """
    >>> from indentsteps.texts import is_script
    >>> is_script(3, (("in", 0, 4),))
    False
""",
    10: """
    >>> from indentsteps.commands import apply
    >>> apply((0, 2, 1), (("out", 0, 3), ("in", 1, 2)))
    (0, 2, 0)
""",
    11: """
    >>> from indentsteps.commands import idle
    >>> idle((0, 0, 1), (("out", 0, 2), ("out", 0, 3), ("out", 0, 3)))
    [0, 2]
""",
}

README = os.path.join(os.path.dirname(os.path.abspath(__file__)), "..", "README.md")


class Examples(unittest.TestCase):

    def check(self, name, text):
        examples = doctest.DocTestParser().get_doctest(text, {}, name, None, 0)
        self.assertTrue(examples.examples, name)
        said = []
        results = doctest.DocTestRunner().run(examples, out=said.append)
        self.assertEqual(results.failed, 0, "".join(said))

    def test_points_of_the_document(self):
        for point, text in POINTS.items():
            with self.subTest(point=point):
                self.check(f"point {point}", text)

    def test_readme(self):
        with open(README, encoding="utf-8") as file:
            self.check("README.md", file.read())


if __name__ == "__main__":
    unittest.main()
