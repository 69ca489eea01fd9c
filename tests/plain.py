"""What the tests of several modules share: the document's definitions, followed word by word, and common checks."""

import copy
import itertools
import unittest

HUGE = 10 ** 40 - 1


def all_commands(length):
    """List all commands for so many lines in ascending order."""
    spans = [(start, end) for start in range(length) for end in range(start + 1, length + 1)]
    return [(name, start, end) for name in ("in", "out") for start, end in spans]


def run(text, script):
    """Return the depths after a script, line by line and in place."""
    depths = list(text)
    for name, start, end in script:
        line = start
        while line != end:
            if name == "in":
                depths[line] += 1
            elif depths[line] != 0:
                depths[line] -= 1
            line += 1
    return tuple(depths)


def fits(text, wish):
    return len(text) == len(wish) and all([w is None or d == w for d, w in zip(text, wish)])


def rises(row):
    return sum([max(0, now - before) for before, now in zip((0,) + tuple(row), row)])


def fixed_lines(text, wish):
    """Return the text and the wish without the free lines."""
    kept = [line for line, wished in enumerate(wish) if wished is not None]
    return tuple([text[line] for line in kept]), tuple([wish[line] for line in kept])


def line_pairs(depth, wished, most):
    """List the pairs of numbers up to `most` that a certificate may have at one line."""
    pairs = itertools.product(range(most + 1), repeat=2)
    return [(o, i) for o, i in pairs if wished is None or max(0, depth - o) + i == wished]


def cheapest(text, wish, most):
    """Return the smallest cost of a certificate with numbers up to `most`, from all pairs at each line."""
    costs = {(0, 0): 0}
    for depth, wished in zip(text, wish):
        costs = {(o, i): min([cost + max(0, o - p) + max(0, i - q) for (p, q), cost in costs.items()])
                 for o, i in line_pairs(depth, wished, most)}
    return min(costs.values())


def layered_script(outs, ins):
    """Return the script of all outs, then all ins, that counts say: a command for each run of lines at each level."""
    script = []
    for name, counts in [("out", outs), ("in", ins)]:
        for level in range(1, max(counts, default=0) + 1):
            inside = [many >= level for many in counts] + [False]
            start = None
            for line, here in enumerate(inside):
                if here and start is None:
                    start = line
                elif not here and start is not None:
                    script.append((name, start, line))
                    start = None
    return tuple(script)


class Box:
    """All texts of so many lines up to a depth, and the fewest commands between them that do not leave the box."""

    def __init__(self, length, deepest):
        self.texts = list(itertools.product(range(deepest + 1), repeat=length))
        at = {text: index for index, text in enumerate(self.texts)}
        followers = [[run(text, (command,)) for command in all_commands(length)] for text in self.texts]
        self.followers = [sorted({at[text] for text in found if text in at}) for found in followers]
        self.at = at

    def steps_from(self, text):
        """Return a dict with the fewest commands from a text to each text of the box."""
        steps = {self.at[text]: 0}
        front = [self.at[text]]
        while front:
            following = []
            for index in front:
                for other in self.followers[index]:
                    if other not in steps:
                        steps[other] = steps[index] + 1
                        following.append(other)
            front = following
        return {self.texts[index]: many for index, many in steps.items()}


def random_text(source, length, deepest):
    return tuple([source.randint(0, deepest) for _ in range(length)])


def random_wish(source, length, deepest, free):
    """Return a wish in which each line is free with a chance of `free` in ten."""
    return tuple([None if source.randrange(10) < free else source.randint(0, deepest) for _ in range(length)])


def random_script(source, length, many, names=("in", "out", "out")):
    script = []
    for _ in range(many):
        start = source.randrange(length)
        script.append((source.choice(names), start, source.randint(start + 1, length)))
    return tuple(script)


class Checks(unittest.TestCase):
    """Asks every function twice, and sees that arguments stay as they are and that lists are new."""

    def ask(self, function, *arguments):
        before = copy.deepcopy(arguments)
        first = function(*arguments)
        kept = copy.deepcopy(first)
        if isinstance(first, list):
            # The list belongs to the caller: nothing that is done to it shows in the next one.
            first.append("changed by the caller")
            first.reverse()
        second = function(*arguments)
        self.assertEqual(repr(second), repr(kept), (function, arguments))
        if isinstance(first, list):
            self.assertIsNot(second, first)
        # repr tells True from 1, which == does not.
        self.assertEqual(repr(arguments), repr(before))
        return second

    def check(self, wanted, function, *arguments):
        """Check for exactly this value, of the same kinds throughout."""
        self.assertEqual(repr(self.ask(function, *arguments)), repr(wanted), (function, arguments))

    def check_script(self, length, script):
        """Check that a value has the form of a script for so many lines, of any number of commands."""
        self.assertIs(type(script), tuple)
        for command in script:
            self.assertIs(type(command), tuple, script)
            name, start, end = command
            self.assertEqual([type(name), type(start), type(end)], [str, int, int])
            self.assertIn(command, all_commands(length))
