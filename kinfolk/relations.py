"""Where two persons meet among those that they come from, and which of these is the nearest."""

from kinfolk.lineage import levels_upwards


def nearest(persons, a, b):
    """The nearest (i, j) that a and b meet by, or None if they meet in nobody."""
    return min(meetings(persons, a, b), key=distance, default=None)


def distance(steps):
    """What the nearest (i, j) has least of."""
    i = steps[0]
    j = steps[1]
    return (i + j, abs(i - j), i)


def meetings(persons, a, b):
    """Every (i, j) that a and b meet by in somebody."""
    found = []
    levels_of_b = levels_upwards(persons, b)
    for i, level_of_a in enumerate(levels_upwards(persons, a)):
        for j, level_of_b in enumerate(levels_of_b):
            if any([meet_in(c, level_of_a, level_of_b) for c in level_of_a]):
                found.append((i, j))
    return found


def meet_in(c, level_of_a, level_of_b):
    """Whether c, who is in a's level, is in b's too and not by way of one and the same child alone."""
    if c not in level_of_b:
        return False
    # Who is up 0 has nobody before them on the way, so that nothing is refused there.
    return len(level_of_a[c]) != 1 or level_of_a[c] != level_of_b[c]
