"""Ladders, told by what stands right beneath what.

In each function `below` has for each thing a list of all that it lies above, and
`beneath` has for a thing the one right beneath it on its ladder, where there is one.
"""


def search(below, beneath):
    """Go from the things with none right beneath them, along all that could stand otherwise.

    Tells for each lower thing that is reached the upper one from which it was, and the lower
    thing above which none stands as soon as such a one is reached, else None.
    """
    above = {low: up for up, low in beneath.items()}
    waiting = [up for up in sorted(below) if up not in beneath]
    reached = {}
    while waiting:
        up = waiting.pop()
        for low in below[up]:
            if low in reached:
                continue
            reached[low] = up
            if low not in above:
                return reached, low
            waiting.append(above[low])
    return reached, None


def row_to(last, reached, beneath):
    """The row of pairs that a search went to reach its last lower thing."""
    up = reached[last]
    row = [(up, last)]
    while up in beneath:
        low = beneath[up]
        up = reached[low]
        row.append((up, low))
    return row[::-1]


def make_fewer(below, beneath):
    """Make the ladders one fewer, if that can be, and tell the row of pairs that changed."""
    reached, last = search(below, beneath)
    if last is None:
        return []
    row = row_to(last, reached, beneath)
    for up, low in row:
        beneath[up] = low
    return row


def fewest(below):
    """What stands right beneath what in as few ladders as can be."""
    beneath = {}
    while make_fewer(below, beneath):
        pass
    return beneath


def close_gap(beneath, one):
    """What stands right beneath what when one thing is gone from the middle of its ladder."""
    closed = {}
    for up, low in beneath.items():
        if up == one:
            continue
        if low != one:
            closed[up] = low
        elif one in beneath:
            closed[up] = beneath[one]
    return closed


def ladder_from(lowest, above):
    """The ladder of a lowest thing, where `above` has what stands right above what."""
    ladder = [lowest]
    while ladder[-1] in above:
        ladder.append(above[ladder[-1]])
    return ladder


def all_ladders(below, beneath):
    """The ladders, by their lowest things, rising."""
    above = {low: up for up, low in beneath.items()}
    return [ladder_from(one, above) for one in sorted(below) if one not in beneath]


def free_set(below, beneath):
    """As many things that are apart as there are ladders, where these are as few as can be.

    Each ladder has just one thing that the search could leave downwards but not reach from
    above. Were one such thing above another, the search would have reached the other.
    """
    reached, _ = search(below, beneath)
    left = [one for one in sorted(below) if one not in beneath or beneath[one] in reached]
    return [one for one in left if one not in reached]
