"""The fewest commands from a text to a wish, with certificates and scripts."""

from indentsteps.prices import all_prices, pair_below
from indentsteps.texts import is_between

MOST_COUNT = 1000


def rises(counts):
    """Return the sum of the steps by which the counts rise, the first step from 0."""
    total = 0
    before = 0
    for now in counts:
        total += max(0, now - before)
        before = now
    return total


def counts_cost(outs, ins):
    """Return the cost of a certificate."""
    return rises(outs) + rises(ins)


def is_counts(length, value):
    """Tell whether a value is a tuple with a number of a certificate for each of so many lines."""
    if not isinstance(value, tuple) or len(value) != length:
        return False
    return all([is_between(0, MOST_COUNT, item) for item in value])


def serves(depth, wished, less, more):
    """Tell whether so many outs and then ins bring a line from its depth to the wished one, if it is not free."""
    return wished is None or max(0, depth - less) + more == wished


def is_certificate(text, wish, value):
    """Tell whether a value is a certificate for a text and a wish."""
    if not isinstance(value, tuple) or len(value) != 2:
        return False
    outs, ins = value
    if not is_counts(len(text), outs) or not is_counts(len(text), ins):
        return False
    return all([serves(depth, wished, less, more) for depth, wished, less, more in zip(text, wish, outs, ins)])


def best_counts(text, wish):
    """Return a certificate with the smallest cost."""
    prices = all_prices(text, wish)
    outs = []
    ins = []
    less = more = 0
    for wished in wish:
        # A free line repeats the pair above it, which adds nothing.
        if wished is not None:
            less, more = pair_below(less, more, prices.pop())
        outs.append(less)
        ins.append(more)
    return (tuple(outs), tuple(ins))


def distance(text, wish):
    """Return the smallest number of commands that lead from the text to a text that fits the wish."""
    return all_prices(text, wish)[-1][0]


def counts_commands(name, counts):
    """List as many commands of one name as the counts have rises; they select each line as often as it counts."""
    commands = []
    starts = []
    for line, many in enumerate([*counts, 0]):
        while len(starts) > many:
            commands.append((name, starts.pop(), line))
        while len(starts) < many:
            starts.append(line)
    return commands


def counts_script(outs, ins):
    """Return a script with the cost of a certificate as its length that does what the certificate says."""
    return tuple(counts_commands("out", outs) + counts_commands("in", ins))


def plan(text, wish):
    """Return a script with the fewest commands that leads from the text to a text that fits the wish."""
    outs, ins = best_counts(text, wish)
    return counts_script(outs, ins)
