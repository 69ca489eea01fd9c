"""What scripts do to all texts: comparing, shortening and undoing them."""

from indentsteps.distances import counts_cost, counts_script


def after_effect(name, pair):
    """Return the effect of a line after one more command of this name that selects it."""
    shift, floor = pair
    if name == "in":
        return (shift + 1, floor + 1)
    return (shift - 1, max(0, floor - 1))


def effects(length, script):
    """Return the list of the pairs (a, b) such that the script changes a depth x to the larger of x + a and b."""
    pairs = [(0, 0)] * length
    for name, start, end in script:
        pairs = [after_effect(name, pair) if start <= line < end else pair for line, pair in enumerate(pairs)]
    return pairs


def first_gap(one, other):
    """Return the smallest depth that two different effects change to different depths."""
    if one[1] != other[1]:
        return 0
    # Below this depth both lead to their common floor, at it the larger shift first leaves the floor.
    return one[1] - max(one[0], other[0]) + 1


def difference(length, first, second):
    """Return the first line and its smallest depth for which two scripts differ, or None if there is none."""
    for line, (one, other) in enumerate(zip(effects(length, first), effects(length, second))):
        if one != other:
            return (line, first_gap(one, other))
    return None


def equal(length, first, second):
    """Tell whether two scripts lead to the same result for all texts."""
    return difference(length, first, second) is None


def commute(one, other):
    """Tell whether the order of two commands never matters."""
    # An "in" and an "out" on one line at the margin: "out" first is lost, "out" last undoes the "in".
    return one[0] == other[0] or one[2] <= other[1] or other[2] <= one[1]


def effect_counts(length, script):
    """Return how often each line must be moved out, and then in, to get the effects of a script."""
    pairs = effects(length, script)
    return (tuple([floor - shift for shift, floor in pairs]), tuple([floor for _, floor in pairs]))


def fewest_equal(length, script):
    """Return the smallest number of commands of a script that is equal to the given one."""
    outs, ins = effect_counts(length, script)
    return counts_cost(outs, ins)


def shortest_equal(length, script):
    """Return a script with the fewest commands that is equal to the given one."""
    outs, ins = effect_counts(length, script)
    return counts_script(outs, ins)


def sources(script, result):
    """Return the smallest and the largest depth of each line that lead to the result, or None if a line has none."""
    found = []
    for (shift, floor), depth in zip(effects(len(result), script), result):
        if depth < floor:
            return None
        largest = depth - shift
        # All depths that are not raised above the floor lead to the floor itself.
        found.append((0 if depth == floor else largest, largest))
    return found
