"""Points 5 and 17 to 23: what scripts do to all texts."""

import itertools
import random
import unittest

from indentsteps.scripts import commute, difference, effects, equal, fewest_equal, shortest_equal, sources

from plain import Checks, all_commands, random_script, rises, run

# Beyond this depth no script of the tests finds the margin: further depths only move along with it.
DEEP = 130

IN = ("in", 0, 1)
OUT = ("out", 0, 1)


def tables(length, script):
    """Return for each line the list of the depths that it gets from each depth up to DEEP."""
    results = [run((depth,) * length, script) for depth in range(DEEP + 1)]
    return [[result[line] for result in results] for line in range(length)]


def plain_effects(length, script):
    """Read the effects off the depths: from the margin a line gets b, from very deep it moves by a."""
    return [(table[DEEP] - DEEP, table[0]) for table in tables(length, script)]


def plain_difference(length, first, second):
    """Return the first line and depth at which the tables of two scripts differ."""
    rows = list(zip(tables(length, first), tables(length, second)))
    for line, (one, other) in enumerate(rows):
        for depth in range(DEEP + 1):
            if one[depth] != other[depth]:
                return (line, depth)
    return None


def plain_sources(script, result):
    """Return the smallest and the largest depth of each line in its table that gets the depth of the result."""
    found = []
    for table, wanted in zip(tables(len(result), script), result):
        depths = [depth for depth, got in enumerate(table) if got == wanted]
        if not depths:
            return None
        found.append((min(depths), max(depths)))
    return found


def fewest_by_search(length, most):
    """Return a dict with the smallest number of commands for all effects of scripts of at most so many commands."""
    # Depths up to `most` and one beyond tell all scripts of so many commands apart.
    start = tuple([(depth,) * length for depth in range(most + 2)])
    fewest = {start: 0}
    front = [start]
    for many in range(1, most + 1):
        following = []
        for texts in front:
            for command in all_commands(length):
                after = tuple([run(text, (command,)) for text in texts])
                if after not in fewest:
                    fewest[after] = many
                    following.append(after)
        front = following
    return fewest


class Effects(Checks):

    def check_effects(self, length, script):
        wanted = plain_effects(length, script)
        self.check(wanted, effects, length, script)
        for (a, b), table in zip(wanted, tables(length, script)):
            self.assertTrue(b >= 0 and b >= a)
            self.assertEqual(table, [max(depth + a, b) for depth in range(DEEP + 1)])

    def test_examples(self):
        self.check([(-1, 0), (0, 0)], effects, 2, (("in", 0, 2), ("out", 0, 1), ("out", 0, 2)))

    def test_the_empty_script(self):
        for length in range(1, 21):
            self.check([(0, 0)] * length, effects, length, ())

    def test_single_commands(self):
        self.check([(1, 1)], effects, 1, (IN,))
        self.check([(-1, 0)], effects, 1, (OUT,))
        self.check([(0, 0), (1, 1), (0, 0)], effects, 3, (("in", 1, 2),))
        self.check([(0, 0), (-1, 0), (-1, 0)], effects, 3, (("out", 1, 3),))

    def test_the_order(self):
        self.check([(0, 0)], effects, 1, (IN, OUT))
        self.check([(0, 1)], effects, 1, (OUT, IN))
        self.check([(-1, 0)], effects, 1, (OUT, IN, OUT))
        self.check([(-1, 1)], effects, 1, (OUT, OUT, IN))
        self.check([(1, 2)], effects, 1, (OUT, IN, IN))
        self.check([(-1, 0)], effects, 1, (IN, OUT, OUT))

    def test_sixty_commands(self):
        self.check([(60, 60)] * 20, effects, 20, (("in", 0, 20),) * 60)
        self.check([(-60, 0)] * 20, effects, 20, (("out", 0, 20),) * 60)
        self.check([(0, 30)], effects, 1, (OUT,) * 30 + (IN,) * 30)
        self.check([(0, 0)], effects, 1, (IN,) * 30 + (OUT,) * 30)
        self.check([(0, 0)], effects, 1, (IN, OUT) * 30)
        self.check([(0, 1)], effects, 1, (OUT, IN) * 30)
        self.check([(-40, 10)], effects, 1, (OUT,) * 50 + (IN,) * 10)

    def test_every_short_script(self):
        for script in itertools.product([IN, OUT], repeat=7):
            self.check_effects(1, script)
        for many in range(3):
            for script in itertools.product(all_commands(3), repeat=many):
                self.check_effects(3, script)

    def test_random_scripts(self):
        source = random.Random(17)
        for length in range(1, 21):
            for many in (3, 20, 60):
                self.check_effects(length, random_script(source, length, many))
                self.check_effects(length, random_script(source, length, many, ("in", "out")))

    def test_somewhat_beyond_the_limits(self):
        effects(0, ())
        effects(25, (("in", 0, 25), ("out", 24, 25)))
        effects(1, (IN,) * 100)


def near_script(source, length, script):
    """Return the script with one change, which often makes no difference."""
    commands = list(script)
    at = source.randrange(len(commands) + 1)
    kind = source.randrange(3)
    if kind == 0:
        return tuple(commands[:at] + list(random_script(source, length, 1)) + commands[at:])
    if kind == 1:
        return tuple(commands[:at] + commands[at + 1:])
    return tuple(commands[:at] + commands[at:at + 2][::-1] + commands[at + 2:])


class Differences(Checks):

    def check_pair(self, wanted, length, first, second):
        self.check(wanted, difference, length, first, second)
        self.check(wanted, difference, length, second, first)
        self.check(wanted is None, equal, length, first, second)
        self.check(wanted is None, equal, length, second, first)

    def test_examples(self):
        self.check((0, 0), difference, 1, (OUT, IN), ())
        self.check((1, 1), difference, 2, (("out", 1, 2),), ())
        self.check(True, equal, 1, (IN, OUT), ())

    def test_equal_scripts(self):
        self.check_pair(None, 1, (), ())
        self.check_pair(None, 1, (IN, OUT), ())
        self.check_pair(None, 1, (OUT, IN, OUT), (OUT,))
        self.check_pair(None, 3, (("in", 0, 2), ("in", 2, 3)), (("in", 0, 3),))
        self.check_pair(None, 3, (("out", 0, 2), ("out", 1, 3)), (("out", 1, 2), ("out", 0, 3)))
        self.check_pair(None, 2, (("in", 0, 1), ("out", 1, 2)), (("out", 1, 2), ("in", 0, 1)))
        self.check_pair(None, 20, (("in", 0, 20),) * 60, (("in", 0, 20),) * 60)
        self.check_pair(None, 20, (("in", 0, 20), ("out", 0, 20)) * 30, ())

    def test_different_scripts(self):
        self.check_pair((0, 0), 1, (IN,), ())
        self.check_pair((0, 1), 1, (OUT,), ())
        self.check_pair((0, 0), 1, (OUT, IN), (IN, OUT))
        self.check_pair((0, 2), 1, (OUT,), (OUT, OUT))
        self.check_pair((0, 0), 1, (IN,), (OUT,))
        self.check_pair((2, 0), 3, (("in", 0, 3),), (("in", 0, 2),))
        self.check_pair((2, 1), 3, (("out", 0, 3),), (("out", 0, 2),))

    def test_the_first_line_counts_and_then_the_depth(self):
        self.check_pair((0, 1), 2, (("out", 0, 1), ("in", 1, 2)), ())
        self.check_pair((0, 3), 2, (("out", 0, 2),) * 2, (("out", 0, 1),) * 3)
        self.check_pair((1, 0), 3, (("in", 1, 2), ("in", 2, 3)), ())
        self.check_pair((19, 0), 20, (("in", 19, 20),), ())
        self.check_pair((19, 1), 20, (("out", 19, 20),), ())

    def test_differences_at_deep_lines_only(self):
        for many in range(1, 61):
            self.check_pair((0, many), 1, (OUT,) * (many - 1), (OUT,) * many)
        self.check_pair((0, 30), 1, (OUT,) * 30 + (IN,) * 30, (OUT,) * 29 + (IN,) * 30)
        self.check_pair((0, 21), 1, (OUT,) * 20, (OUT,) * 60)
        self.check_pair((0, 51), 1, (OUT,) * 50 + (IN,) * 10, (OUT,) * 60 + (IN,) * 10)
        self.check_pair((1, 31), 2, (("out", 0, 2),) * 30, (("out", 0, 2),) * 30 + (("out", 1, 2),) * 10)

    def test_every_pair_of_short_scripts(self):
        scripts = [script for many in range(5) for script in itertools.product([IN, OUT], repeat=many)]
        for first, second in itertools.product(scripts, repeat=2):
            self.check(plain_difference(1, first, second), difference, 1, first, second)
        scripts = [script for many in range(3) for script in itertools.product(all_commands(2), repeat=many)]
        for first, second in itertools.product(scripts, repeat=2):
            wanted = plain_difference(2, first, second)
            self.check(wanted, difference, 2, first, second)
            self.check(wanted is None, equal, 2, first, second)

    def test_random_scripts(self):
        source = random.Random(18)
        for length in range(1, 21):
            for many in (2, 10, 59):
                script = random_script(source, length, many)
                for other in [near_script(source, length, script), random_script(source, length, many)]:
                    self.check_pair(plain_difference(length, script, other), length, script, other)

    def test_random_scripts_of_one_line(self):
        source = random.Random(19)
        for _ in range(150):
            first = random_script(source, 1, source.randint(0, 60))
            second = random_script(source, 1, source.randint(0, 60))
            self.check_pair(plain_difference(1, first, second), 1, first, second)

    def test_somewhat_beyond_the_limits(self):
        difference(0, (), ())
        equal(0, (), ())
        difference(25, (("in", 0, 25),), (("in", 0, 24),))
        equal(1, (OUT,) * 100, (OUT,) * 101)


class Commute(Checks):

    def test_examples(self):
        self.check(False, commute, ("in", 0, 2), ("out", 1, 3))

    def test_the_same_name(self):
        for name in ("in", "out"):
            for one, other in [((0, 1), (0, 1)), ((0, 20), (3, 5)), ((0, 5), (4, 9)), ((0, 5), (5, 9)),
                               ((7, 9), (0, 1))]:
                self.check(True, commute, (name, *one), (name, *other))

    def test_lines_in_common(self):
        for one, other in [((0, 1), (0, 1)), ((0, 20), (0, 20)), ((0, 20), (3, 5)), ((3, 5), (0, 20)), ((0, 5), (4, 9)),
                           ((4, 9), (0, 5)), ((0, 5), (0, 1)), ((19, 20), (0, 20)), ((2, 6), (3, 6))]:
            self.check(False, commute, ("in", *one), ("out", *other))
            self.check(False, commute, ("out", *one), ("in", *other))

    def test_no_line_in_common(self):
        for one, other in [((0, 1), (1, 2)), ((1, 2), (0, 1)), ((0, 10), (10, 20)), ((10, 20), (0, 10)),
                           ((0, 1), (19, 20)), ((5, 7), (9, 12)), ((9, 12), (5, 7))]:
            self.check(True, commute, ("in", *one), ("out", *other))
            self.check(True, commute, ("out", *one), ("in", *other))

    def test_every_pair_of_commands(self):
        commands = [(command, set(range(command[1], command[2]))) for command in all_commands(20)]
        for (one, some), (other, others) in itertools.product(commands, repeat=2):
            wanted = one[0] == other[0] or not some & others
            self.assertIs(commute(one, other), wanted, (one, other))

    def test_what_both_orders_do(self):
        source = random.Random(20)
        for one in source.sample(all_commands(20), 60):
            for other in source.sample(all_commands(20), 10):
                orders = [[run((depth,) * 20, script) for depth in range(4)] for script in [(one, other), (other, one)]]
                self.check(orders[0] == orders[1], commute, one, other)

    def test_somewhat_beyond_the_limits(self):
        commute(("in", 0, 25), ("out", 22, 24))


class Shortest(Checks):

    def check_fewest(self, wanted, length, script):
        self.check(wanted, fewest_equal, length, script)
        short = self.ask(shortest_equal, length, script)
        self.check_script(length, short)
        self.assertEqual(len(short), wanted, (script, short))
        self.assertEqual(tables(length, short), tables(length, script), (script, short))
        self.check(True, equal, length, script, short)
        self.check(wanted, fewest_equal, length, short)

    def test_examples(self):
        self.check(2, fewest_equal, 3, (("in", 0, 3), ("out", 1, 2)))
        self.check((OUT,), shortest_equal, 1, (OUT, IN, OUT))

    def test_scripts_that_do_nothing(self):
        for length in (1, 3, 20):
            self.check_fewest(0, length, ())
            self.check((), shortest_equal, length, ())
            self.check_fewest(0, length, (("in", 0, length), ("out", 0, length)) * 30)
            self.check((), shortest_equal, length, (("in", 0, 1),) * 30 + (("out", 0, 1),) * 30)

    def test_single_commands(self):
        for length in (1, 4, 20):
            for command in all_commands(length):
                self.check_fewest(1, length, (command,))
                self.check((command,), shortest_equal, length, (command,))

    def test_scripts_that_get_shorter(self):
        self.check_fewest(1, 1, (OUT, IN, OUT))
        self.check_fewest(2, 1, (OUT, IN))
        self.check_fewest(1, 3, (("in", 0, 1), ("in", 1, 2), ("in", 2, 3)))
        self.check_fewest(1, 2, (("out", 1, 2), ("out", 0, 1)))
        self.check_fewest(2, 3, (("in", 0, 3), ("out", 1, 2)))
        self.check_fewest(2, 3, (("in", 0, 2), ("in", 1, 3)))
        self.check_fewest(3, 3, (("out", 0, 3), ("in", 0, 1), ("in", 2, 3)))
        self.check_fewest(2, 2, (("out", 0, 1), ("in", 0, 2), ("out", 0, 1), ("in", 1, 2), ("out", 1, 2)))

    def test_sixty_commands(self):
        self.check_fewest(60, 20, (("in", 0, 20),) * 60)
        self.check_fewest(60, 1, (OUT,) * 30 + (IN,) * 30)
        self.check_fewest(2, 1, (OUT, IN) * 30)
        self.check_fewest(60, 20, (("in", 4, 9),) * 20 + (("out", 0, 3),) * 20 + (("in", 12, 20),) * 20)
        self.check_fewest(30, 2, (("in", 0, 1), ("in", 1, 2)) * 30)

    def check_by_search(self, length, most, longest, many):
        """Compare random scripts with all scripts of at most `most` commands."""
        fewest = fewest_by_search(length, most)
        source = random.Random(length)
        seen = 0
        while seen < many:
            script = random_script(source, length, source.randint(0, longest), ("in", "out"))
            after = tuple([run((depth,) * length, script) for depth in range(most + 2)])
            if self.told(length, script, most) and after in fewest:
                self.check_fewest(fewest[after], length, script)
                seen += 1

    def told(self, length, script, most):
        """Tell whether the depths up to `most` and one beyond show both numbers of each line's effect."""
        return all([b - a <= most for a, b in plain_effects(length, script)])

    def test_one_line_by_search(self):
        self.check_by_search(1, 9, 14, 200)

    def test_two_lines_by_search(self):
        self.check_by_search(2, 5, 8, 200)

    def test_three_lines_by_search(self):
        self.check_by_search(3, 4, 6, 200)

    def test_four_lines_by_search(self):
        self.check_by_search(4, 3, 5, 100)

    def test_random_scripts(self):
        source = random.Random(21)
        for length in range(1, 21):
            for many in (5, 30, 60):
                for names in [("in", "out"), ("in", "out", "out")]:
                    script = random_script(source, length, many, names)
                    pairs = plain_effects(length, script)
                    wanted = rises([b - a for a, b in pairs]) + rises([b for _, b in pairs])
                    self.assertLessEqual(wanted, many)
                    self.check_fewest(wanted, length, script)

    def test_somewhat_beyond_the_limits(self):
        for length, script in [(0, ()), (25, (("in", 0, 25), ("out", 3, 24))), (1, (IN, OUT, OUT) * 40)]:
            fewest_equal(length, script)
            shortest_equal(length, script)


class Sources(Checks):

    def test_examples(self):
        self.check([(0, 1), (2, 2)], sources, (("out", 0, 2),), (0, 1))
        self.check(None, sources, (("in", 0, 1),), (0,))

    def test_the_empty_script(self):
        for result in [(0,), (20,), (0, 2, 1), tuple(range(20))]:
            self.check([(depth, depth) for depth in result], sources, (), result)

    def test_single_commands(self):
        self.check([(0, 0)], sources, (IN,), (1,))
        self.check([(19, 19)], sources, (IN,), (20,))
        self.check([(0, 1)], sources, (OUT,), (0,))
        self.check([(2, 2)], sources, (OUT,), (1,))
        self.check([(3, 3), (0, 1), (5, 5)], sources, (("out", 1, 2),), (3, 0, 5))
        self.check([(3, 3), (1, 1), (5, 5)], sources, (("in", 1, 2),), (3, 2, 5))

    def test_no_source(self):
        self.check(None, sources, (OUT, IN), (0,))
        self.check(None, sources, (IN,) * 5, (4,))
        self.check(None, sources, (("in", 1, 2),), (3, 0, 3))
        self.check(None, sources, (("in", 2, 3),), (3, 3, 0))
        self.check(None, sources, (("in", 0, 20),) * 21, (20,) * 20)
        self.check(None, sources, (("in", 19, 20),), (20,) * 19 + (0,))

    def test_the_floor_of_a_script(self):
        self.check([(0, 1)], sources, (OUT, IN), (1,))
        self.check([(2, 2)], sources, (OUT, IN), (2,))
        self.check([(0, 3)], sources, (OUT, OUT, OUT, IN), (1,))
        self.check([(4, 4)], sources, (OUT, OUT, OUT, IN), (2,))
        self.check([(0, 0)], sources, (IN,) * 5, (5,))
        self.check([(0, 0)], sources, (IN, OUT), (0,))

    def test_sources_deeper_than_20(self):
        self.check([(0, 60)] * 20, sources, (("out", 0, 20),) * 60, (0,) * 20)
        self.check([(80, 80), (61, 61)], sources, (("out", 0, 2),) * 60, (20, 1))
        self.check([(21, 21)], sources, (OUT,), (20,))
        self.check([(0, 30)], sources, (OUT,) * 30 + (IN,) * 20, (20,))
        self.check([(0, 50)], sources, (OUT,) * 50 + (IN,) * 10, (10,))
        self.check([(51, 51)], sources, (OUT,) * 50 + (IN,) * 10, (11,))
        self.check(None, sources, (OUT,) * 50 + (IN,) * 10, (9,))

    def test_every_short_script(self):
        for script in itertools.product([IN, OUT], repeat=6):
            for depth in range(21):
                self.check(plain_sources(script, (depth,)), sources, script, (depth,))

    def test_every_pair_of_commands(self):
        for script in itertools.product(all_commands(3), repeat=2):
            for result in [(0, 0, 0), (1, 0, 1), (0, 1, 0), (2, 1, 0), (1, 1, 1), (1, 2, 3)]:
                self.check(plain_sources(script, result), sources, script, result)

    def test_random_scripts(self):
        source = random.Random(23)
        for length in range(1, 21):
            for many in (4, 20, 60):
                script = random_script(source, length, many)
                for deepest in (0, 3, 10):
                    text = tuple([source.randint(0, deepest) for _ in range(length)])
                    for result in [run(text, script), text]:
                        self.check(plain_sources(script, result), sources, script, result)

    def test_somewhat_beyond_the_limits(self):
        sources((OUT,) * 100, (25,))
        sources((), ())
        sources((("in", 0, 25),), (30,) * 25)


if __name__ == "__main__":
    unittest.main()
