"""What commands do to the depths of the lines."""


def moved(name, depth):
    """Return the depth of a selected line after a command of this name."""
    if name == "in":
        return depth + 1
    return max(0, depth - 1)


def after_command(text, command):
    """Return the tuple of the depths after one command."""
    name, start, end = command
    # Going over the lines, not over the selection, keeps an end beyond the last line harmless.
    return tuple([moved(name, depth) if start <= line < end else depth for line, depth in enumerate(text)])


def apply(text, script):
    """Return the tuple of the depths after the script."""
    depths = text
    for command in script:
        depths = after_command(depths, command)
    return depths


def idle(text, script):
    """Return the ascending list of the indices of all commands that change no depth."""
    found = []
    depths = text
    for index, command in enumerate(script):
        changed = after_command(depths, command)
        if changed == depths:
            found.append(index)
        depths = changed
    return found
