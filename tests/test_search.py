"""Points 5, 7, 24 and 25: counting shortest scripts, and finding a hidden command."""

import itertools
import math
import random
import unittest

from indentsteps.search import count_plans, hidden_commands

from plain import Checks, all_commands, random_script, random_text, run


def plain_counts(text, targets, most):
    """Return a dict with the number of shortest scripts to each target that at most so many commands reach."""
    found = {}
    ways = {text: 1}
    for _ in range(most + 1):
        for target in targets:
            if target in ways and target not in found:
                found[target] = ways[target]
        following = {}
        for reached, many in ways.items():
            for command in all_commands(len(text)):
                after = run(reached, (command,))
                following[after] = following.get(after, 0) + many
        ways = following
    return found


def plain_hidden(text, script, position, result):
    """Try all commands at the position."""
    found = []
    for command in all_commands(len(text)):
        commands = list(script)
        commands.insert(position, command)
        if run(text, commands) == result:
            found.append(command)
    return found


class Counts(Checks):

    def test_examples(self):
        self.check(3, count_plans, (0, 0, 0), (1, 0, 1))

    def test_the_text_itself(self):
        for text in [(0,), (4,), (0, 2, 1), (4, 0, 4, 0), (0, 0, 0, 0), (4, 4, 4, 4)]:
            self.check(1, count_plans, text, text)

    def test_one_line(self):
        for depth, wished in itertools.product(range(5), repeat=2):
            self.check(1, count_plans, (depth,), (wished,))

    def test_one_command(self):
        self.check(1, count_plans, (0, 0, 0), (1, 1, 0))
        self.check(1, count_plans, (2, 2, 2), (2, 1, 1))
        # The command may also select lines at the margin beside the line that it moves.
        self.check(2, count_plans, (0, 1), (0, 0))
        self.check(4, count_plans, (0, 1, 0), (0, 0, 0))
        self.check(6, count_plans, (0, 0, 1, 0), (0, 0, 0, 0))
        self.check(4, count_plans, (0, 0, 0, 1), (0, 0, 0, 0))
        self.check(1, count_plans, (1, 0, 1), (0, 0, 0))

    def test_the_order_of_the_commands_counts(self):
        # Two separate commands, or two that meet in the middle, each in two orders.
        self.check(4, count_plans, (3, 3, 3), (4, 3, 2))
        self.check(2, count_plans, (0, 0), (2, 1))
        self.check(math.factorial(4), count_plans, (0, 0, 0, 0), (1, 2, 3, 4))
        self.check(math.factorial(4), count_plans, (0, 0, 0, 0), (4, 3, 2, 1))
        self.check(1, count_plans, (4, 4, 4, 4), (0, 0, 0, 0))

    def test_every_pair_of_two_lines(self):
        texts = list(itertools.product(range(4), repeat=2))
        for text in texts:
            counts = plain_counts(text, texts, 6)
            self.assertEqual(len(counts), len(texts))
            for target in texts:
                self.check(counts[target], count_plans, text, target)

    def test_every_pair_of_three_lines(self):
        texts = list(itertools.product(range(3), repeat=3))
        for text in texts:
            counts = plain_counts(text, texts, 6)
            self.assertEqual(len(counts), len(texts))
            for target in texts:
                self.check(counts[target], count_plans, text, target)

    def test_four_lines(self):
        source = random.Random(24)
        texts = list(itertools.product(range(5), repeat=4))
        for text in [(4, 0, 4, 0), (0, 3, 0, 2), *source.sample(texts, 3)]:
            counts = plain_counts(text, texts, 8)
            for target in source.sample(sorted(counts), 40):
                self.check(counts[target], count_plans, text, target)

    def test_many_commands(self):
        # Each number is also what plain_counts finds, with up to 12 commands.
        for wanted, text, target in [(38998, (4, 0, 4, 0), (0, 4, 0, 4)), (38998, (0, 4, 0, 4), (4, 0, 4, 0)),
                                     (530807, (0, 4, 4, 0), (4, 0, 1, 2)), (55975, (4, 4, 1, 0), (0, 4, 0, 4)),
                                     (1764, (0, 0, 0, 0), (4, 0, 4, 0)), (4900, (4, 4, 4, 4), (0, 4, 0, 4)),
                                     (905, (4, 1, 3, 1), (1, 4, 0, 4)), (185, (1, 4, 2, 4), (4, 1, 3, 0))]:
            self.check(wanted, count_plans, text, target)

    def test_somewhat_beyond_the_limits(self):
        count_plans((), ())
        count_plans((0, 6), (5, 0))
        count_plans((1, 0, 1, 0, 1), (0, 1, 0, 1, 0))


class Hidden(Checks):

    def check_hidden(self, text, script, position, result):
        wanted = plain_hidden(text, script, position, result)
        self.assertEqual(wanted, sorted(set(wanted)))
        self.check(wanted, hidden_commands, text, script, position, result)

    def test_examples(self):
        self.check([("out", 0, 2), ("out", 1, 2)], hidden_commands, (0, 1), (), 0, (0, 0))

    def test_the_empty_script(self):
        for command in all_commands(4):
            self.check([command], hidden_commands, (3, 4, 5, 6), (), 0, run((3, 4, 5, 6), (command,)))
        self.check([("out", 0, 1)], hidden_commands, (0,), (), 0, (0,))
        self.check([("in", 0, 1)], hidden_commands, (0,), (), 0, (1,))
        self.check([], hidden_commands, (0,), (), 0, (2,))
        self.check([], hidden_commands, (1,), (), 0, (1,))
        self.check([], hidden_commands, (5, 5, 5), (), 0, (6, 5, 6))

    def test_commands_of_both_names_in_ascending_order(self):
        self.check([("in", 0, 1), ("out", 0, 1)], hidden_commands, (0,), (("out", 0, 1),), 0, (0,))
        self.check([("out", 0, 1)], hidden_commands, (0,), (("out", 0, 1),), 1, (0,))
        self.check([("in", 0, 1), ("in", 0, 2), ("in", 1, 2), ("out", 0, 1), ("out", 0, 2), ("out", 1, 2)],
                   hidden_commands, (0, 0), (("out", 0, 2),), 0, (0, 0))

    def test_every_position(self):
        script = (("out", 0, 2), ("in", 1, 3), ("out", 0, 3), ("in", 0, 1))
        for text in itertools.product(range(3), repeat=3):
            results = {run(text, script[:at] + (command,) + script[at:])
                       for at in range(5) for command in all_commands(3)}
            for position in range(5):
                for result in sorted(results):
                    self.check_hidden(text, script, position, result)

    def test_no_command(self):
        script = (("in", 0, 3), ("in", 0, 3))
        for position in range(3):
            self.check([], hidden_commands, (0, 0, 0), script, position, (0, 0, 0))
            self.check([], hidden_commands, (1, 1, 1), script, position, (3, 3, 3))
            self.check([], hidden_commands, (1, 1, 1), script, position, (4, 3, 4))
            self.check([("in", 0, 2)], hidden_commands, (1, 1, 1), script, position, (4, 4, 3))

    def test_commands_that_change_nothing(self):
        for length in (1, 3, 20):
            outs = [("out", start, end) for start in range(length) for end in range(start + 1, length + 1)]
            self.check(outs, hidden_commands, (0,) * length, (), 0, (0,) * length)
            self.check([], hidden_commands, (1,) * length, (), 0, (1,) * length)

    def test_long_scripts(self):
        source = random.Random(25)
        for length in (1, 2, 3, 5, 10, 20):
            for many in (1, 7, 59):
                text = random_text(source, length, 20)
                script = random_script(source, length, many, ("in", "out"))
                for position in sorted({0, many // 2, many}):
                    command = source.choice(all_commands(length))
                    result = run(text, script[:position] + (command,) + script[position:])
                    self.assertIn(command, plain_hidden(text, script, position, result))
                    self.check_hidden(text, script, position, result)

    def test_scripts_in_which_outs_are_lost(self):
        source = random.Random(26)
        for length in (1, 2, 4, 6, 12):
            for many in (1, 4, 12):
                for _ in range(6):
                    text = random_text(source, length, 2)
                    script = random_script(source, length, many)
                    position = source.randint(0, many)
                    command = source.choice(all_commands(length))
                    result = run(text, script[:position] + (command,) + script[position:])
                    self.check_hidden(text, script, position, result)
                    self.check_hidden(text, script, position, run(text, script))

    def test_fifty_nine_commands(self):
        script = (("out", 0, 20),) * 30 + (("in", 0, 20),) * 29
        text = (20,) * 20
        for position in (0, 30, 31, 58, 59):
            self.check_hidden(text, script, position, (29,) * 20)
            self.check_hidden(text, script, position, (30,) * 20)
            self.check_hidden(text, script, position, (29,) * 5 + (30,) * 10 + (29,) * 5)

    def test_somewhat_beyond_the_limits(self):
        hidden_commands((25,), (("out", 0, 1),) * 60, 60, (0,))
        hidden_commands((0,) * 22, (("in", 0, 22),), 1, (1,) * 22)
        hidden_commands((), (), 0, ())


if __name__ == "__main__":
    unittest.main()
