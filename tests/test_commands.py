"""Points 5, 10 and 11: what commands do to depths, and which commands change none."""

import copy
import itertools
import random
import unittest

from indentsteps.commands import apply, idle


def plain_steps(text, script):
    """List the depths before the first and after each command, line by line and in place."""
    depths = list(text)
    steps = [tuple(depths)]
    for name, start, end in script:
        line = start
        while line != end:
            if name == "in":
                depths[line] += 1
            elif depths[line] != 0:
                depths[line] -= 1
            line += 1
        steps.append(tuple(depths))
    return steps


def plain_idle(text, script):
    """List the commands after which the depths are those before it."""
    steps = plain_steps(text, script)
    return [at for at in range(len(script)) if steps[at] == steps[at + 1]]


def all_commands(length):
    ranges = [(start, end) for start in range(length) for end in range(start + 1, length + 1)]
    return [(name, start, end) for name in ("in", "out") for start, end in ranges]


def random_case(source, length, most_commands, deepest):
    """Return a text and a script, mostly of outs, for so many lines."""
    text = tuple([source.randint(0, deepest) for _ in range(length)])
    script = []
    for _ in range(source.randint(0, most_commands)):
        start = source.randrange(length)
        script.append((source.choice(["in", "out", "out"]), start, source.randint(start + 1, length)))
    return text, tuple(script)


class Checks(unittest.TestCase):

    def check_apply(self, wanted, text, script):
        before = copy.deepcopy((text, script))
        first = apply(text, script)
        self.assertEqual(first, wanted, (text, script))
        self.assertIs(type(first), tuple)
        self.assertEqual([type(depth) for depth in first], [int] * len(text))
        self.assertEqual(apply(text, script), wanted)
        self.assertEqual((text, script), before)

    def check_idle(self, wanted, text, script):
        before = copy.deepcopy((text, script))
        first = idle(text, script)
        self.assertEqual(first, wanted, (text, script))
        self.assertIs(type(first), list)
        self.assertEqual([type(index) for index in first], [int] * len(wanted))
        # The list belongs to the caller: nothing that is done to it shows in the next one.
        first.append(-1)
        first.reverse()
        second = idle(text, script)
        self.assertIsNot(second, first)
        self.assertEqual(second, wanted)
        self.assertEqual((text, script), before)


class Apply(Checks):

    def test_single_commands(self):
        self.check_apply((1, 3, 2), (0, 2, 1), (("in", 0, 3),))
        self.check_apply((0, 3, 1), (0, 2, 1), (("in", 1, 2),))
        self.check_apply((1, 2, 1), (0, 2, 1), (("in", 0, 1),))
        self.check_apply((0, 2, 2), (0, 2, 1), (("in", 2, 3),))
        self.check_apply((0, 1, 0), (0, 2, 1), (("out", 1, 3),))
        self.check_apply((0, 2, 0), (0, 2, 1), (("out", 2, 3),))

    def test_every_single_command(self):
        texts = list(itertools.product(range(3), repeat=3)) + [(20, 0, 1, 19, 5), (0, 0, 0, 0), (7,)]
        for text in texts:
            for command in all_commands(len(text)):
                self.check_apply(plain_steps(text, (command,))[-1], text, (command,))

    def test_every_pair_of_commands(self):
        for text in itertools.product(range(3), repeat=3):
            for script in itertools.product(all_commands(3), repeat=2):
                self.check_apply(plain_steps(text, script)[-1], text, script)

    def test_the_margin(self):
        self.check_apply((0,), (0,), (("out", 0, 1),))
        self.check_apply((0, 0, 0), (0, 0, 0), (("out", 0, 3),))
        self.check_apply((0, 1, 0, 0), (0, 2, 0, 1), (("out", 0, 4),))
        self.check_apply((0, 0), (2, 3), (("out", 0, 2),) * 5)
        # A line forgets the outs that found it at the margin.
        self.check_apply((1, 1), (0, 1), (("out", 0, 2), ("in", 0, 2)))
        self.check_apply((2, 1), (0, 2), (("out", 0, 2),) * 3 + (("in", 0, 2), ("in", 0, 1)))

    def test_the_order(self):
        self.check_apply((1,), (0,), (("out", 0, 1), ("in", 0, 1)))
        self.check_apply((0,), (0,), (("in", 0, 1), ("out", 0, 1)))

    def test_the_empty_script(self):
        for text in [(0,), (20,), (0, 2, 1), tuple(range(20))]:
            self.check_apply(text, text, ())

    def test_results_deeper_than_20(self):
        self.check_apply((21,), (20,), (("in", 0, 1),))
        self.check_apply((80, 60), (20, 0), (("in", 0, 2),) * 60)
        self.check_apply((20, 21, 20), (20, 20, 20), (("in", 0, 3), ("in", 1, 2), ("out", 0, 3)))
        self.check_apply((30, 10), (0, 0), (("in", 0, 2),) * 20 + (("in", 0, 1), ("out", 1, 2)) * 10)

    def test_one_line(self):
        self.check_apply((3,), (2,), (("in", 0, 1),))
        self.check_apply((1,), (2,), (("out", 0, 1),))
        self.check_apply((0,), (20,), (("out", 0, 1),) * 20)
        self.check_apply((0,), (20,), (("out", 0, 1),) * 60)

    def test_twenty_lines(self):
        text = tuple(range(20))
        self.check_apply(tuple(range(1, 21)), text, (("in", 0, 20),))
        self.check_apply((0,) + tuple(range(19)), text, (("out", 0, 20),))
        self.check_apply(tuple(range(19)) + (20,), text, (("in", 19, 20),))
        self.check_apply(tuple(range(19)) + (18,), text, (("out", 19, 20),))
        self.check_apply((1,) + tuple(range(1, 20)), text, (("in", 0, 1),))
        self.check_apply((0,) * 20, text, (("out", 0, 20),) * 19)

    def test_long_scripts(self):
        source = random.Random(5)
        for length in range(1, 21):
            for _ in range(20):
                text, script = random_case(source, length, 60, 20)
                self.check_apply(plain_steps(text, script)[-1], text, script)

    def test_somewhat_beyond_the_limits(self):
        self.check_apply((26, 24), (25, 25), (("in", 0, 1), ("out", 1, 2)))
        self.check_apply((1,) * 25, (0,) * 25, (("in", 0, 25),))
        self.check_apply((100,), (0,), (("in", 0, 1),) * 100)


class Idle(Checks):

    def test_no_command_is_idle(self):
        self.check_idle([], (0, 2, 1), ())
        self.check_idle([], (0, 2, 1), (("in", 0, 3), ("out", 0, 1), ("out", 1, 3)))
        self.check_idle([], (20,), (("out", 0, 1),) * 20)
        self.check_idle([], (0,), (("in", 0, 1), ("out", 0, 1)) * 30)
        self.check_idle([], (20,) * 20, (("in", 0, 20),) * 60)

    def test_some_commands_are_idle(self):
        self.check_idle([2], (0, 2), (("out", 1, 2), ("out", 1, 2), ("out", 1, 2), ("in", 0, 1)))
        self.check_idle([0], (0,), (("out", 0, 1), ("in", 0, 1), ("out", 0, 1)))
        self.check_idle([0, 3], (0,), (("out", 0, 1), ("in", 0, 1), ("out", 0, 1), ("out", 0, 1)))
        self.check_idle(list(range(20, 60)), (20,), (("out", 0, 1),) * 60)

    def test_all_commands_are_idle(self):
        self.check_idle([0], (0,), (("out", 0, 1),))
        self.check_idle([0, 1, 2], (0, 0, 0), (("out", 0, 3), ("out", 1, 2), ("out", 0, 1)))
        self.check_idle(list(range(60)), (0,) * 20, (("out", 0, 20),) * 60)

    def test_a_command_that_changes_one_of_its_lines_only(self):
        self.check_idle([], (0, 1, 0), (("out", 0, 3),))
        self.check_idle([1], (0, 0, 1), (("out", 0, 3), ("out", 0, 3)))
        self.check_idle([1], (1, 0, 0), (("out", 0, 3), ("out", 0, 3)))
        self.check_idle([], (0,) * 19 + (1,), (("out", 0, 20),))

    def test_selections_beside_deep_lines(self):
        self.check_idle([0, 1], (5, 0, 5), (("out", 1, 2), ("out", 1, 2)))
        self.check_idle([0], (0, 5), (("out", 0, 1), ("out", 1, 2)))
        self.check_idle([1], (5, 0), (("out", 0, 1), ("out", 1, 2)))

    def test_changes_that_are_undone_are_not_idle(self):
        self.check_idle([], (3, 3), (("in", 0, 2), ("out", 0, 2)))
        self.check_idle([], (3, 3), (("out", 0, 2), ("in", 0, 2)))
        # As a script the first command could be left out, but it changes a depth.
        self.check_idle([], (0,), (("in", 0, 1), ("out", 0, 1)))

    def test_every_pair_of_commands(self):
        for text in itertools.product(range(3), repeat=3):
            for script in itertools.product(all_commands(3), repeat=2):
                self.check_idle(plain_idle(text, script), text, script)

    def test_long_scripts(self):
        source = random.Random(11)
        for length in range(1, 21):
            for deepest in (0, 1, 2, 20):
                for _ in range(10):
                    text, script = random_case(source, length, 60, deepest)
                    wanted = plain_idle(text, script)
                    self.check_idle(wanted, text, script)
                    self.assertEqual(wanted, sorted(set(wanted)))

    def test_the_list_is_new_also_when_it_is_empty(self):
        first = idle((1,), ())
        second = idle((1,), ())
        self.assertIsNot(first, second)
        first.append(7)
        self.assertEqual(second, [])
        self.assertEqual(idle((1,), ()), [])

    def test_somewhat_beyond_the_limits(self):
        self.check_idle([30], (30,), (("out", 0, 1),) * 31)
        self.check_idle([0], (0,) * 25, (("out", 0, 25), ("in", 24, 25)))
        self.check_idle(list(range(100)), (0,), (("out", 0, 1),) * 100)


if __name__ == "__main__":
    unittest.main()
