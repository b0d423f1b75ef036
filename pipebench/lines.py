"""The line, which is up at some ticks (steps) of a call."""


def marked(ups):
    """The numbers of ups as the keys of a dict, for quick asking."""
    up = {}
    for number in ups:
        up[number] = True
    return up


def line_at(up, number):
    """1 if the line is up at the tick (step) of that number, else 0."""
    return 1 if number in up else 0
