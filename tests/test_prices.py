"""Points 12, 13 and 16: the fast search gives the answers of the slow one that it replaced, and is fast."""

import random
import time
import unittest

from indentsteps.distances import best_counts, counts_cost, distance, is_certificate, plan

from earlier import all_earlier, earlier
from plain import cheapest, fits, random_text, random_wish, rises, run

# Texts and wishes for which the slow search, or the fast one, takes longest of those tried.
LONGEST = [
    ((20,) + (0,) * 19, (20,) * 20),
    ((0,) * 19 + (20,), (20,) * 20),
    ((0, 18, 0, 17, 1, 0, 17, 6, 0, 9, 0, 2, 20, 11, 0, 4, 0, 5, 20, 2),
     (6, 16, 7, 20, 20, 0, 18, 20, 0, 20, 5, 20, 4, 13, 0, 20, 0, 20, 0, 0)),
    ((20, 0, 20, 3, 0, 16, 3, 0, 0, 2, 0, 12, 6, 0, 14, 2, 0, 4, 20, 4),
     (0, 20, 19, 20, 0, 18, 20, 0, 16, 20, 0, 16, 20, 0, 19, 20, 0, 20, 0, 0)),
    ((15, 19, 3, 0, 0, 11, 0, 0, 14, 11, 0, 4, 2, 3, 20, 11, 0, 9, 20, 0),
     (14, 18, 20, 6, 0, 20, 0, 6, 10, 20, 0, 20, 0, 20, 11, 20, 4, 20, 20, 20)),
]

# Texts and wishes that random ones seldom come near: twos and noughts alternate in the prices of some of their lines.
SELDOM = [
    ((2, 1, 0, 1, 2), (0, 3, 2, 3, 0)),
    ((4, 3, 0, 3, 4), (0, 3, 2, 3, 0)),
    ((6, 5, 3, 0, 2, 5), (0, 4, 3, 1, 4, 1)),
    ((0, 4, 2, 0, 1, 2, 3), (4, 4, 3, 1, 4, 2, 0)),
    ((4, 0, 4, 2, 0, 2, 1, 4), (4, 4, 3, 2, 0, 2, 2, 1)),
    ((0, 9, 9, 5, 2, 3, 8, 2), (8, 9, 6, 3, 0, 5, 4, 8)),
    ((3, 0, 3, 0, 2, 0, 1, 3), (0, 3, 3, 0, 3, 0, 1, 0)),
    ((9, 2, 0, 2, 0, 9, 3, 9, 9), (0, 8, 0, 2, 0, 9, 8, 0, 4)),
    ((2, 0, 0, 0, 2, 0, 1, 0, 1, 0, 1, 2, 1, 0), (2, 0, 0, 2, 0, 1, 1, 0, 1, 0, 2, 1, 2, 0)),
    ((7, 0, 4, 5, 5, 0, 2, 8), (2, 9, 9, 6, 9, 2, 4, 2)),
    ((7, 3, 7, 5, 2, 6, 7, 0), (1, 4, 3, 2, 0, 4, 3, 3)),
    ((3, 0, 4, 3, 4, 1, 2, 4), (0, 3, 4, 4, 4, 0, 4, 0)),
    ((3, 1, 0, 2, 1, 0, 2, 3, 0), (1, 0, 3, 3, 3, 1, 3, 0, 3)),
    ((3, 0, 3, 2, 3, 0, 1, 5, 3), (0, 6, 4, 5, 6, 0, 1, 0, 6)),
]


def random_cases(source, many):
    """Give texts and wishes of 1 to 20 lines with depths from 0 to 20."""
    for _ in range(many):
        length = source.randint(1, 20)
        yield random_text(source, length, 20), random_text(source, length, 20)


def steep_text(source, length, deepest):
    """Return a text of lines at the margin, at the largest depth, and some between."""
    return tuple([source.choice([0, 0, deepest, source.randint(0, deepest)]) for _ in range(length)])


class Answers(unittest.TestCase):

    def check_cost(self, wanted, text, wish):
        """Check that all three functions answer with this cost."""
        self.assertEqual(repr(distance(text, wish)), repr(wanted), (text, wish))
        counts = best_counts(text, wish)
        self.assertIs(is_certificate(text, wish, counts), True, (text, wish, counts))
        outs, ins = counts
        self.assertEqual(rises(outs) + rises(ins), wanted, (text, wish, counts))
        self.assertEqual(counts_cost(outs, ins), wanted)
        script = plan(text, wish)
        self.assertEqual(len(script), wanted, (text, wish, script))
        self.assertTrue(fits(run(text, script), wish), (text, wish, script))

    def check_as_earlier(self, text, wish, answer):
        """Check the cost, and also that it comes with the very counts that it came with."""
        cost, counts = answer
        self.check_cost(cost, text, wish)
        self.assertEqual(repr(best_counts(text, wish)), repr(counts), (text, wish))

    def check_all(self, lines, deepest, many):
        found = 0
        for text, wish, answer in all_earlier(lines, deepest):
            self.check_as_earlier(text, wish, answer)
            found += 1
        self.assertEqual(found, many)

    def test_the_slow_search(self):
        self.assertEqual(earlier((0, 3, 0, 3, 0), (0, 0, 0, 0, 0)), (3, ((0, 3, 3, 3, 0), (0, 0, 0, 0, 0))))
        self.assertEqual(earlier((1, 1, 1), (2, None, 2)), (1, ((0, 0, 0), (1, 1, 1))))
        for text, wish, answer in all_earlier(2, 2):
            self.assertEqual(answer, earlier(text, wish))
            # A free line is best moved like a line beside it, so no number above 2 is needed.
            self.assertEqual(answer[0], cheapest(text, wish, 2), (text, wish))

    def test_all_texts_and_wishes_of_one_line(self):
        self.check_all(1, 20, 21 * 22)

    def test_all_texts_and_wishes_of_two_lines(self):
        self.check_all(2, 6, 56 ** 2)

    def test_all_texts_and_wishes_of_three_lines(self):
        self.check_all(3, 3, 20 ** 3)

    def test_all_texts_and_wishes_of_four_lines(self):
        self.check_all(4, 3, 20 ** 4)

    def test_the_longest(self):
        for text, wish in LONGEST:
            self.check_as_earlier(text, wish, earlier(text, wish))
            self.check_as_earlier(text[::-1], wish[::-1], earlier(text[::-1], wish[::-1]))
            self.check_as_earlier(wish, text, earlier(wish, text))

    def test_seldom_texts_and_wishes(self):
        for text, wish in SELDOM:
            for one, other in [(text, wish), (wish, text)]:
                for step in (1, -1):
                    answer = earlier(one[::step], other[::step])
                    self.assertEqual(answer[0], cheapest(one, other, max(one + other)))
                    self.check_as_earlier(one[::step], other[::step], answer)
            for line in range(len(text)):
                freed = wish[:line] + (None,) + wish[line + 1:]
                self.check_as_earlier(text, freed, earlier(text, freed))

    def test_random_texts_and_wishes(self):
        for text, wish in random_cases(random.Random(21), 1500):
            self.check_as_earlier(text, wish, earlier(text, wish))

    def test_random_texts_and_wishes_with_free_lines(self):
        source = random.Random(22)
        for free in (1, 3, 6):
            for text, _ in random_cases(source, 500):
                wish = random_wish(source, len(text), 20, free)
                self.check_as_earlier(text, wish, earlier(text, wish))

    def test_random_texts_and_wishes_of_small_depths(self):
        source = random.Random(23)
        for length in range(1, 21):
            for deepest in range(1, 10):
                for free in (0, 0, 0, 2):
                    text = random_text(source, length, deepest)
                    wish = random_wish(source, length, deepest, free)
                    self.check_as_earlier(text, wish, earlier(text, wish))

    def test_random_texts_and_wishes_with_steep_lines(self):
        source = random.Random(24)
        for length in range(2, 21):
            for deepest in (3, 6, 12, 20):
                for _ in range(10):
                    text, wish = steep_text(source, length, deepest), steep_text(source, length, deepest)
                    self.check_as_earlier(text, wish, earlier(text, wish))

    def test_somewhat_beyond_the_limits(self):
        source = random.Random(25)
        for _ in range(200):
            length = source.randint(0, 25)
            text = tuple([source.randint(-2, 30) for _ in range(length)])
            wish = tuple([source.choice([None, source.randint(-2, 30), source.randint(0, 40)]) for _ in range(length)])
            cost, counts = earlier(text, wish)
            self.assertEqual(distance(text, wish), cost, (text, wish))
            self.assertEqual(best_counts(text, wish), counts, (text, wish))
            self.assertEqual(len(plan(text, wish)), cost)


def seconds(function, cases, rounds):
    """Return the time of the processor that the function takes for the cases once, the least of three times."""
    found = []
    for _ in range(3):
        start = time.process_time()
        for _ in range(rounds):
            for text, wish in cases:
                function(text, wish)
        found.append((time.process_time() - start) / rounds)
    return min(found)


class Times(unittest.TestCase):
    """The bounds are far from what was measured (distance: 50 to 70 times, for the longest 40 and more)."""

    def check_times(self, cases):
        slow = seconds(earlier, cases, 1)
        self.assertLess(12 * seconds(distance, cases, 20), slow)
        self.assertLess(6 * seconds(best_counts, cases, 20), slow)
        self.assertLess(6 * seconds(plan, cases, 20), slow)

    def test_random_texts_and_wishes(self):
        self.check_times(list(random_cases(random.Random(26), 100)))

    def test_the_longest(self):
        self.check_times(LONGEST * 5)


if __name__ == "__main__":
    unittest.main()
