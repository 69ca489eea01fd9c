"""Counting the shortest scripts, and finding a command that was not recorded."""

from indentsteps.commands import after_command, apply
from indentsteps.distances import distance
from indentsteps.scripts import sources


def all_commands(length):
    """Return the ascending list of all commands for so many lines."""
    spans = [(start, end) for start in range(length) for end in range(start + 1, length + 1)]
    return [(name, start, end) for name in ("in", "out") for start, end in spans]


def one_further(ways):
    """From the number of scripts to each text, return the number of scripts with one more command to each text."""
    found = {}
    for text, many in ways.items():
        for command in all_commands(len(text)):
            after = after_command(text, command)
            found[after] = found.get(after, 0) + many
    return found


def count_plans(text, target):
    """Return the number of scripts with the fewest commands that lead from the text to the target."""
    ways = {text: 1}
    for left in reversed(range(distance(text, target))):
        found = one_further(ways)
        # Only a script that comes one step closer by each command can end at the target in time.
        ways = {after: found[after] for after in found if distance(after, target) == left}
    return ways.get(target, 0)


def lies_within(text, ranges):
    """Tell whether each depth lies in the range of its line."""
    return all([low <= depth <= high for depth, (low, high) in zip(text, ranges)])


def hidden_commands(text, script, position, result):
    """Return the ascending list of the commands that, inserted at the position, lead from the text to the result."""
    before = apply(text, script[:position])
    ranges = sources(script[position:], result)
    if ranges is None:
        return []
    commands = all_commands(len(text))
    return [command for command in commands if lies_within(after_command(before, command), ranges)]
