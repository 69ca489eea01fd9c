"""The search for the smallest cost as it was before it was made faster: its answers are to stay as they were.

It keeps a way, which is a cost and the tuple of its lines' pairs of outs and ins, for each pair that a line may have.
"""

FIRST = [(0, ((0, 0),))]


def choices(depth, wished, most):
    """List the pairs of at most so many outs and then ins that lead from one depth to another."""
    fewest = max(0, depth - wished)
    return [(less, wished - max(0, depth - less)) for less in range(fewest, most + 1)]


def climb(before, pair):
    """Return what a line's pair of outs and ins adds to the cost behind the pair of the line before it."""
    return max(0, pair[0] - before[0]) + max(0, pair[1] - before[1])


def extended(ways, pair):
    """Return the cheapest way that ends with a pair."""
    cost, pairs = min([(paid + climb(past[-1], pair), past) for paid, past in ways])
    return (cost, (*pairs, pair))


def ways_on(ways, depth, wished, most):
    """Return the ways with one more line."""
    if wished is None:
        return [(cost, (*pairs, pairs[-1])) for cost, pairs in ways]
    return [extended(ways, pair) for pair in choices(max(0, depth), max(0, wished), most)]


def answer(ways):
    """Return the smallest cost of the ways, and the outs and ins of the first way that has it."""
    cost, best = min(ways)
    return cost, (tuple([less for less, _ in best[1:]]), tuple([more for _, more in best[1:]]))


def earlier(text, wish):
    """Return the answers of distance and best_counts."""
    ways = FIRST
    for depth, wished in zip(text, wish):
        ways = ways_on(ways, depth, wished, max([0, *text]))
    return answer(ways)


def all_earlier(lines, deepest):
    """Give each text of so many lines up to a depth with each such wish, some lines free, and their answers."""
    # More outs than the largest depth of the text have no further effect: `deepest` is enough for all texts.
    front = [((), (), FIRST)]
    for _ in range(lines - 1):
        front = [(text + (depth,), wish + (wished,), ways_on(ways, depth, wished, deepest))
                 for text, wish, ways in front
                 for depth in range(deepest + 1) for wished in (None, *range(deepest + 1))]
    for text, wish, ways in front:
        for depth in range(deepest + 1):
            for wished in (None, *range(deepest + 1)):
                yield text + (depth,), wish + (wished,), answer(ways_on(ways, depth, wished, deepest))
