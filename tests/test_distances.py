"""Points 6, 7 and 12 to 16: distances, certificates and shortest scripts to a wish."""

import itertools
import random
import unittest

from indentsteps.distances import best_counts, counts_cost, distance, is_certificate, plan

from plain import HUGE, Box, Checks, cheapest, fits, fixed_lines, random_text, random_wish, rises, run


class WishChecks(Checks):

    def check_counts(self, text, wish, counts):
        """Check that a value is a certificate, by the words of point 7."""
        self.assertIs(type(counts), tuple)
        self.assertEqual(len(counts), 2)
        for row in counts:
            self.assertIs(type(row), tuple)
            self.assertEqual([type(many) for many in row], [int] * len(text))
            self.assertTrue(all([0 <= many <= 1000 for many in row]), counts)
        reached = tuple([max(0, depth - o) + i for depth, o, i in zip(text, *counts)])
        self.assertTrue(fits(reached, wish), (text, wish, counts))

    def check_wish(self, wanted, text, wish):
        """Check the distance, and what the other functions make of the same text and wish."""
        self.check(wanted, distance, text, wish)
        counts = self.ask(best_counts, text, wish)
        self.check_counts(text, wish, counts)
        self.assertEqual(rises(counts[0]) + rises(counts[1]), wanted, (text, wish, counts))
        self.check(True, is_certificate, text, wish, counts)
        self.check(wanted, counts_cost, *counts)
        script = self.ask(plan, text, wish)
        self.check_script(len(text), script)
        self.assertEqual(len(script), wanted, (text, wish, script))
        self.assertTrue(fits(run(text, script), wish), (text, wish, script))


class Distances(WishChecks):

    def test_examples(self):
        self.check_wish(3, (0, 3, 0, 3, 0), (0, 0, 0, 0, 0))
        self.check_wish(1, (1, 1, 1), (2, None, 2))
        self.check_wish(2, (2,), (0,))
        self.check(((2,), (0,)), best_counts, (2,), (0,))

    def test_the_text_itself(self):
        for text in [(0,), (20,), (0, 2, 1), (3, 0, 3), (20, 0) * 10, tuple(range(20)), (7,) * 20]:
            self.check_wish(0, text, text)
            self.check((), plan, text, text)
            self.check(((0,) * len(text), (0,) * len(text)), best_counts, text, text)

    def test_all_lines_to_the_margin(self):
        for text in [(4,), (0, 3, 0, 3, 0), (1, 2, 3, 4), (5, 0, 5), (20, 0) * 10, (0,) * 20, (20,) * 20,
                     (0,) * 19 + (20,), tuple(range(1, 21))]:
            self.check_wish(max(text), text, (0,) * len(text))

    def test_from_lines_at_the_margin(self):
        for wish in [(4,), (0, 3, 0, 3, 0), (1, 2, 3, 4), (5, 0, 5), (20, 0) * 10, (20,) * 20, (0,) * 19 + (20,),
                     tuple(range(1, 21))]:
            self.check_wish(rises(wish), (0,) * len(wish), wish)

    def test_free_lines(self):
        self.check_wish(1, (1, 9, 1), (2, None, 2))
        self.check_wish(1, (1, 0, 1), (0, None, 0))
        self.check_wish(1, (20, 1, 20), (None, 2, None))
        self.check_wish(3, (0, 5, 0), (2, None, 3))
        self.check_wish(2, (5, 5, 5, 5), (None, None, None, 3))
        self.check_wish(2, (5, 5, 5, 5), (3, None, None, None))
        self.check_wish(3, (5, 0, 20, 5), (4, None, None, 2))
        self.check_wish(4, (3, 0, 3), (5, None, 1))

    def test_all_lines_free(self):
        for length in range(1, 21):
            text = tuple([(7 * line) % 21 for line in range(length)])
            self.check_wish(0, text, (None,) * length)
            self.check((), plan, text, (None,) * length)

    def test_one_line(self):
        for depth in range(21):
            for wished in range(21):
                self.check_wish(abs(depth - wished), (depth,), (wished,))
            self.check_wish(0, (depth,), (None,))

    def test_lines_that_are_moved_beyond_the_margin(self):
        # The outs of the deep lines also select the lines at the margin, which they do not change.
        self.check_wish(3, (3, 0, 3), (0, 0, 0))
        self.check_wish(4, (3, 0, 3), (0, 1, 0))
        self.check_wish(3, (2, 1, 2), (0, 1, 0))
        self.check_wish(3, (0, 3, 0, 3, 0), (0, 1, 0, 2, 1))
        self.check_wish(12, (4, 0, 4, 0), (0, 4, 0, 4))
        self.check_wish(220, (20, 0) * 10, (0, 20) * 10)
        self.check_wish(4, (1, 0, 0, 1, 0), (0, 0, 1, 0, 2))

    def test_lines_that_are_moved_out_and_back_in(self):
        # At the margin the outs are lost, so outs and ins of all lines leave the deep ones where they were.
        self.check_wish(2, (0, 2, 0, 2, 0), (1, 2, 1, 2, 1))
        self.check_wish(10, (0, 9, 0, 9, 0), (5, 9, 5, 9, 5))
        self.check_wish(20, (0, 20, 0, 20, 0, 20, 0), (10, 20, 10, 20, 10, 20, 10))
        self.check_wish(40, (0, 20) * 10, (20, 20) * 10)
        self.check_wish(2, (0, 3, 0, 3, 0), (1, 3, 1, None, 1))

    def check_box(self, length, deepest, wishes=None, many=None):
        """Check texts and wishes up to a depth, all or so many, against a search."""
        # A free line is moved at most as far in as a wish goes.
        box = Box(length, 2 * deepest)
        source = random.Random(length)
        texts = list(itertools.product(range(deepest + 1), repeat=length))
        if many is not None:
            texts = source.sample(texts, many)
        for text in texts:
            steps = box.steps_from(text)
            found = list(itertools.product([None, *range(deepest + 1)], repeat=length))
            if wishes is not None:
                found = source.sample(found, wishes)
            for wish in found:
                self.check_wish(min([steps[other] for other in steps if fits(other, wish)]), text, wish)

    def test_two_lines(self):
        self.check_box(2, 4)

    def test_three_lines(self):
        self.check_box(3, 2)
        self.check_box(3, 4, 20, 30)

    def test_four_lines(self):
        self.check_box(4, 3, 40, 20)

    def test_five_lines(self):
        self.check_box(5, 2, 40, 10)

    def test_certificates_of_many_lines(self):
        source = random.Random(12)
        for length in range(1, 21):
            for deepest in (1, 3, 20):
                text = random_text(source, length, deepest)
                wish = random_text(source, length, deepest)
                self.check_wish(cheapest(text, wish, deepest), text, wish)

    def test_certificates_where_no_line_or_every_line_gets_deeper(self):
        source = random.Random(15)
        for length in range(2, 21):
            for deepest in (2, 5, 20):
                deep = tuple([source.choice([0, 0, 1, deepest]) for _ in range(length)])
                other = random_text(source, length, deepest)
                low = tuple(map(min, deep, other))
                high = tuple(map(max, deep, other))
                for text, wish in [(deep, high), (high, deep), (low, deep), (deep, low), (low, high), (high, low)]:
                    self.check_wish(cheapest(text, wish, deepest), text, wish)

    def test_certificates_of_many_lines_some_free(self):
        source = random.Random(13)
        for length in range(1, 21):
            for deepest, free in [(3, 2), (4, 5), (3, 8)]:
                text = random_text(source, length, deepest)
                wish = random_wish(source, length, deepest, free)
                self.check_wish(cheapest(text, wish, deepest + 1), text, wish)
            text = random_text(source, length, 20)
            wish = random_wish(source, length, 20, 4)
            self.check_wish(cheapest(*fixed_lines(text, wish), 20), text, wish)

    def test_long_plans(self):
        self.check_wish(200, (0,) * 20, (20, 0) * 10)
        self.check_wish(20, (20,) * 20, (0,) * 20)
        self.check_wish(20, (0,) * 20, (20,) * 20)
        self.check_wish(200, (20,) * 20, (0, 20) * 10)

    def test_somewhat_beyond_the_limits(self):
        for text, wish in [((25,), (0,)), ((0, 30), (30, 0)), ((0,) * 25, (1, None, 3, 25, 0) * 5), ((), ()),
                           ((40, 3), (None, 45)), ((2,), (-1,)), ((-1, 2), (1, -2))]:
            distance(text, wish)
            plan(text, wish)
            counts_cost(*best_counts(text, wish))


class Costs(Checks):

    def test_examples(self):
        self.check(6, counts_cost, (3, 3, 3, 3, 3), (0, 1, 0, 2, 1))

    def test_one_line(self):
        for o in (0, 1, 7, 1000):
            for i in (0, 1, 5, 1000):
                self.check(o + i, counts_cost, (o,), (i,))

    def test_single_rows(self):
        for cost, row in [(0, (0, 0, 0)), (1, (1, 1, 1)), (3, (3, 2, 1)), (3, (1, 2, 3)), (6, (3, 0, 3)),
                          (2, (0, 2, 0)), (5, (2, 1, 3, 0, 1)), (4, (0, 0, 0, 4)), (1000, (1000,) * 20),
                          (10000, (1000, 0) * 10), (10000, (0, 1000) * 10), (19, tuple(range(20))),
                          (19, tuple(range(19, -1, -1)))]:
            zeros = (0,) * len(row)
            self.check(cost, counts_cost, row, zeros)
            self.check(cost, counts_cost, zeros, row)
            self.check(2 * cost, counts_cost, row, row)

    def test_the_rows_are_counted_apart(self):
        self.check(3, counts_cost, (1, 0, 1), (0, 1, 0))
        self.check(2, counts_cost, (1, 1, 0), (0, 1, 1))
        self.check(5, counts_cost, (0, 0, 3), (2, 2, 2))

    def test_random_rows(self):
        source = random.Random(14)
        for length in range(1, 21):
            for most in (1, 3, 20, 1000):
                outs = random_text(source, length, most)
                ins = random_text(source, length, most)
                self.check(rises(outs) + rises(ins), counts_cost, outs, ins)

    def test_somewhat_beyond_the_limits(self):
        counts_cost((), ())
        counts_cost((1200, 3), (0, 1100))
        counts_cost((1,) * 25, (2,) * 25)


# What point 2 allows for `value` and what is no number of a certificate.
NO_COUNTS = [-1, 1001, -1000, 2000, HUGE, -HUGE, True, False, None, "", "0", "out", (), (0,), [], [0], [[1], (2,)]]


class Certificates(Checks):

    def test_examples(self):
        self.check(True, is_certificate, (0, 3, 0), (0, 0, 0), ((3, 3, 3), (0, 0, 0)))

    def test_ordinary(self):
        self.check(True, is_certificate, (2,), (0,), ((2,), (0,)))
        self.check(False, is_certificate, (2,), (0,), ((1,), (0,)))
        self.check(False, is_certificate, (2,), (0,), ((2,), (1,)))
        self.check(False, is_certificate, (2,), (0,), ((0,), (2,)))
        self.check(True, is_certificate, (0, 3, 0), (0, 0, 0), ((0, 3, 0), (0, 0, 0)))
        self.check(False, is_certificate, (0, 3, 0), (0, 0, 0), ((3, 2, 3), (0, 0, 0)))
        self.check(False, is_certificate, (0, 3, 0), (0, 0, 0), ((0, 0, 0), (3, 3, 3)))
        self.check(True, is_certificate, (1, 2), (3, 1), ((0, 1), (2, 0)))
        self.check(False, is_certificate, (1, 2), (3, 1), ((2, 0), (0, 1)))
        self.check(False, is_certificate, (1, 2), (3, 1), ((0, 1), (2, 1)))

    def test_certificates_that_are_not_cheap(self):
        self.check(True, is_certificate, (5,), (5,), ((5,), (5,)))
        self.check(True, is_certificate, (5,), (5,), ((1000,), (5,)))
        self.check(True, is_certificate, (5,), (5,), ((3,), (3,)))
        self.check(True, is_certificate, (0, 1, 2), (1, 1, 1), ((9, 1, 1000), (1, 1, 1)))

    def test_the_outs_stop_at_the_margin(self):
        self.check(True, is_certificate, (1,), (2,), ((4,), (2,)))
        self.check(False, is_certificate, (1,), (2,), ((4,), (5,)))
        self.check(True, is_certificate, (0,), (0,), ((7,), (0,)))
        self.check(False, is_certificate, (0,), (0,), ((7,), (7,)))

    def test_every_pair_for_one_line(self):
        for depth, wished in itertools.product(range(5), repeat=2):
            for o, i in itertools.product(range(7), repeat=2):
                self.check(max(0, depth - o) + i == wished, is_certificate, (depth,), (wished,), ((o,), (i,)))

    def test_every_pair_of_rows_for_two_lines(self):
        for rows in itertools.product(itertools.product(range(4), repeat=2), repeat=2):
            for text, wish in [((2, 0), (1, 1)), ((1, 2), (None, 1)), ((0, 0), (0, None)), ((3, 1), (None, None))]:
                reached = tuple([max(0, depth - o) + i for depth, o, i in zip(text, *rows)])
                self.check(fits(reached, wish), is_certificate, text, wish, rows)

    def test_the_bounds_of_the_numbers(self):
        self.check(True, is_certificate, (20,), (0,), ((1000,), (0,)))
        self.check(False, is_certificate, (20,), (0,), ((1001,), (0,)))
        self.check(False, is_certificate, (0,), (0,), ((-1,), (0,)))
        self.check(False, is_certificate, (0,), (0,), ((0,), (-1,)))
        # These would lead to the wished depths.
        self.check(False, is_certificate, (1,), (2,), ((-1,), (0,)))
        self.check(False, is_certificate, (3,), (1,), ((1,), (-1,)))
        self.check(False, is_certificate, (1, 1), (0, 0), ((1, 1), (0, False)))
        self.check(False, is_certificate, (1, 1), (0, 0), ((True, 1), (0, 0)))
        self.check(False, is_certificate, (0,), (1,), ((0,), (True,)))
        self.check(False, is_certificate, (0,), (1,), ((False,), (1,)))

    def test_free_lines(self):
        for many in (0, 1, 500, 999, 1000):
            self.check(True, is_certificate, (7,), (None,), ((many,), (0,)))
            self.check(True, is_certificate, (7,), (None,), ((0,), (many,)))
            self.check(True, is_certificate, (7,), (None,), ((many,), (many,)))
            self.check(True, is_certificate, (1, 7, 1), (2, None, 2), ((0, many, 0), (1, 1000 - many, 1)))
            self.check(False, is_certificate, (1, 7, 1), (2, None, 2), ((0, many, 0), (1, many, 0)))
        for wrong in NO_COUNTS:
            self.check(False, is_certificate, (7,), (None,), ((wrong,), (0,)))
            self.check(False, is_certificate, (7,), (None,), ((0,), (wrong,)))
            self.check(False, is_certificate, (1, 7, 1), (2, None, 2), ((0, wrong, 0), (1, 1, 1)))
            self.check(False, is_certificate, (1, 7, 1), (2, None, 2), ((0, 0, 0), (1, wrong, 1)))

    def test_one_number_replaced(self):
        text, wish = (0, 2, 1), (1, 1, 0)
        right = ((0, 1, 1), (1, 0, 0))
        self.check(True, is_certificate, text, wish, right)
        for part, line in itertools.product(range(2), range(3)):
            for wrong in NO_COUNTS:
                rows = [list(row) for row in right]
                rows[part][line] = wrong
                self.check(False, is_certificate, text, wish, (tuple(rows[0]), tuple(rows[1])))

    def test_rows_of_other_lengths(self):
        for length in (1, 2, 5, 20):
            text, wish, zeros = (0,) * length, (None,) * length, (0,) * length
            self.check(True, is_certificate, text, wish, (zeros, zeros))
            self.check(True, is_certificate, text, text, (zeros, zeros))
            for other in [zeros[1:], zeros + (0,), (0,) * 300, ()]:
                for wished in (wish, text):
                    self.check(False, is_certificate, text, wished, (other, zeros))
                    self.check(False, is_certificate, text, wished, (zeros, other))
                    self.check(False, is_certificate, text, wished, (other, other))

    def test_lists_for_tuples(self):
        self.check(True, is_certificate, (2, 1), (1, 1), ((1, 0), (0, 0)))
        self.check(False, is_certificate, (2, 1), (1, 1), [(1, 0), (0, 0)])
        self.check(False, is_certificate, (2, 1), (1, 1), ([1, 0], (0, 0)))
        self.check(False, is_certificate, (2, 1), (1, 1), ((1, 0), [0, 0]))
        self.check(False, is_certificate, (2, 1), (1, 1), [[1, 0], [0, 0]])

    def test_other_kinds(self):
        row = (0, 0)
        values = [None, True, False, 0, 1, -1, HUGE, -HUGE, "", "ab", "00", "x" * 100, (), [], (0,), (0, 0), (0, 0, 0),
                  (row,), (row, row, row), (row, None), (None, row), (row, 0), (0, row), (row, "00"), ("00", row),
                  (row, ()), ((), row), ((), ()), (row, (0,)), (None, None), (True, False), ("", ""), ("ab", "cd"),
                  ((row,), (row,)), ((row, row), (row, row)), (row, (0, 0, 0)), (row,) * 300, (0,) * 300, [row] * 300,
                  ((0, "0"), row), (row, ("", "")), ((None, None), (None, None)), ((row, row),)]
        deep_list, deep_tuple = [], ()
        for _ in range(17):
            deep_list, deep_tuple = [deep_list], (deep_tuple,)
        values += [deep_list, deep_tuple, (row, deep_list), (deep_tuple, row), (row, deep_tuple),
                   (row, (0, deep_tuple))]
        for value in values:
            self.check(False, is_certificate, (0, 0), (0, 0), value)
            self.check(False, is_certificate, (0, 0), (None, None), value)
        self.check(True, is_certificate, (0, 0), (0, 0), (row, row))

    def test_twenty_lines(self):
        text, wish = tuple(range(20)), (0,) * 20
        self.check(True, is_certificate, text, wish, ((19,) * 20, (0,) * 20))
        self.check(True, is_certificate, text, wish, (text, (0,) * 20))
        for line in range(20):
            outs, ins = [19] * 20, [0] * 20
            ins[line] = 1
            self.check(False, is_certificate, text, wish, (tuple(outs), tuple(ins)))
            ins[line] = 0
            outs[line] = max(0, line - 1)
            self.check(line == 0, is_certificate, text, wish, (tuple(outs), tuple(ins)))

    def test_somewhat_beyond_the_limits(self):
        is_certificate((25, 30), (30, None), ((0, 0), (5, 1000)))
        is_certificate((1,) * 25, (0,) * 25, ((1,) * 25, (0,) * 25))
        is_certificate((), (), ((), ()))


if __name__ == "__main__":
    unittest.main()
