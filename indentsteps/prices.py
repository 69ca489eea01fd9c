"""The search for the smallest cost of a certificate, line by line from the last line up.

The rises from the last line up have the same sum as those from the first line down: both ways the counts begin and end
at 0, and the rises of one way are the falls of the other.

A line that is not free has these pairs of outs and ins. With no more outs than its depth it has `shift` more ins than
outs, where the shift is its wished depth minus its depth; these pairs are its slope. With more outs it has as many ins
as its wished depth, which is its height; these pairs are its level.

The price of a number is the smallest cost of the lines from this one down, if this line has at least so many outs. A
step, to one out more, costs nothing, 1 or 2 more commands, since at most one in comes with the out. So three integers
tell all prices of a line: `cost` is the price of 0, bit k of `twos` is set if the step from k to k + 1 outs costs 2,
and bit k of `noughts` if it costs nothing. The integers hold all steps at once; no price is worked out on its own.
"""

# Below the last line there are 0 outs and 0 ins, and each step costs 1: cost, twos, noughts, shift and height.
NOTHING = (0, 0, 0, 0, 0)


def cancelled(twos, noughts, most):
    """Let each two and the next nought above it that is left become ones, if at most so many steps lead to it."""
    # Mostly no nought lies above a two.
    if 0 < twos & -twos < noughts:
        for by in range(1, most + 1):
            met = (twos << by) & noughts
            twos ^= met >> by
            noughts ^= met
    return twos, noughts


def paid_steps(many, noughts):
    """Return how many of the first so many steps are no noughts."""
    steps = ((1 << many) - 1) & ~noughts
    shown = f"{steps:b}"
    return shown.count("1")


def lowered(twos, noughts, bend):
    """Return the steps if the level is lowered, so that it begins with `bend` outs."""
    # No in comes with an out there. So a two costs 1, and the prices above it fall, up to the next nought.
    high = (twos >> bend) << bend
    _, left = cancelled(high, noughts, noughts.bit_length())
    return twos ^ high, left


def with_fewer_ins(cost, twos, noughts, by, fewest):
    """Return cost, twos and noughts if the slope has so many ins less, and now begins with the fewest outs."""
    # For one in less: k outs cost what they cost before, or 1 more than k - 1 outs, which is cheaper if a two lies
    # between. So each two moves up by a step, and if it meets a nought there, both become ones.
    twos, noughts = cancelled(twos, noughts, by)
    # Less than the fewest outs cost as much as these.
    return cost + paid_steps(fewest, noughts), twos << by, noughts | ((1 << fewest) - 1)


def with_more_ins(cost, twos, noughts, by, bend):
    """Return cost, twos and noughts if the slope, which ends with `bend` outs, has so many ins more."""
    # For one in more: k outs cost 1 more than before, or what k + 1 outs cost, which is cheaper if a nought lies
    # between. So each nought moves down by a step, and if it meets a two there, both become ones.
    level = (noughts >> bend) << bend
    twos, slope = cancelled(twos, noughts ^ level, by)
    # With 0 outs each of the ins costs 1, but none where a nought lies at the first step.
    return cost + paid_steps(by, slope), twos, level | (slope >> by)


def bent(twos, noughts, bend, depth):
    """Return the steps if the level, which began with `bend` outs, begins with as many outs as the depth."""
    if bend < depth:
        # One more in comes with each of these steps.
        between = (1 << depth) - (1 << bend)
        return twos | (between & ~noughts), noughts & ~between
    # One in less comes with each of these steps.
    between = (1 << bend) - (1 << depth)
    return twos & ~between, noughts | (between & ~twos)


def line_prices(below, depth, wished):
    """Return the prices of a line that is not free from those of the line below it, both in the order of NOTHING."""
    cost, twos, noughts, shift, height = below
    now = wished - depth
    if wished < height:
        height = wished
        twos, noughts = lowered(twos, noughts, max(0, height - shift))
    if now < shift:
        bend = height - now
        cost, twos, noughts = with_fewer_ins(cost, twos, noughts, shift - now, max(0, -now))
    else:
        bend = height - shift
        cost, twos, noughts = with_more_ins(cost, twos, noughts, now - shift, bend)
    twos, noughts = bent(twos, noughts, bend, depth)
    return (cost, twos, noughts, now, wished)


def all_prices(text, wish):
    """List NOTHING and then the prices of each line that is not free, from the last line up."""
    prices = NOTHING
    found = [prices]
    lines = list(zip(text, wish))
    for depth, wished in reversed(lines):
        if wished is not None:
            # No line gets beyond the margin, whatever a wish outside the limits asks for.
            prices = line_prices(prices, max(0, depth), max(0, wished))
            found.append(prices)
    return found


def pair_below(outs, ins, prices):
    """Return the cheapest pair of a line with these prices, if the line above it has so many outs and ins."""
    _, twos, noughts, shift, height = prices
    # An out more saves a rise of the outs up to the outs above, and on the slope a rise of the ins up to the ins above.
    other = min(ins, height) - shift
    low = max(0, min(outs, other))
    high = max(outs, other)
    # Up to both it saves 2, as much as a step costs at most, and beyond both nothing. Between them it saves 1, so the
    # noughts gain what the twos before them lose.
    between = (1 << high) - (1 << low)
    _, gains = cancelled(twos & between, noughts & between, high)
    best = max(low, gains.bit_length())
    # Twos right below cost just what they save. Without them, this is the one with the fewest outs of all the cheapest.
    fewest = (((1 << best) - 1) & ~twos).bit_length()
    return fewest, min(fewest + shift, height)
