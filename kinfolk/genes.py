"""Kinship: the chance that of one gene, drawn from each of two persons, both come from one ancestor's."""

from kinfolk.lineage import elders_first, upwards

# 2 ** 62 stands for certainty: along two lines of 30 steps a chance is halved 61 times at most, so nothing is lost.
CERTAINTY = 4611686018427387904


def kinship_of(persons, a, b):
    """The kinship of a with b, as a part of CERTAINTY."""
    family = upwards(persons, a)
    family.update(upwards(persons, b))
    return kinships(persons, elders_first(persons, family))[(a, b)]


def kinships(persons, numbers):
    """The kinship of every two of the numbers, parents ahead of their children, by the pair, either way round."""
    table = {}
    for place, one in enumerate(numbers):
        parents = persons[one].parents
        # Those before are none whose ancestor this one is.
        for other in numbers[:place]:
            both = kinship_in(table, parents[0], other) + kinship_in(table, parents[1], other)
            table[(one, other)] = both // 2
            table[(other, one)] = both // 2
        table[(one, one)] = (CERTAINTY + kinship_in(table, parents[0], parents[1])) // 2
    return table


def kinship_in(table, one, other):
    """The kinship of two that the table has; a parent that isn't known is in no table."""
    return table.get((one, other), 0)
