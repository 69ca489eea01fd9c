"""Which values are texts, wishes and scripts."""

MOST_LINES = 20
MOST_DEPTH = 20
MOST_COMMANDS = 60
NAMES = ("in", "out")


def is_between(low, high, value):
    """Tell whether a value is an integer from low to high."""
    # For Python True and False are integers, for the document they are not.
    if isinstance(value, bool) or not isinstance(value, int):
        return False
    return low <= value <= high


def is_row(value):
    """Tell whether a value is a tuple with one item for each line."""
    return isinstance(value, tuple) and 1 <= len(value) <= MOST_LINES


def is_text(value):
    """Tell whether a value is a text."""
    return is_row(value) and all([is_between(0, MOST_DEPTH, item) for item in value])


def is_wish(value):
    """Tell whether a value is a wish."""
    return is_row(value) and all([item is None or is_between(0, MOST_DEPTH, item) for item in value])


def is_command(length, value):
    """Tell whether a value is a command for so many lines."""
    if not isinstance(value, tuple) or len(value) != 3:
        return False
    name, start, end = value
    if name not in NAMES or not is_between(0, length - 1, start):
        return False
    return is_between(start + 1, length, end)


def is_script(length, value):
    """Tell whether a value is a script for so many lines."""
    if not isinstance(value, tuple) or len(value) > MOST_COMMANDS:
        return False
    return all([is_command(length, item) for item in value])
