"""Ways from persons to their parents, among persons by their numbers."""

from kinfolk.persons import NOBODY


def known_parents(person):
    """The numbers of those parents that are known."""
    return [parent for parent in person.parents if parent != NOBODY]


def ancestors(persons, number):
    """Whom the person with that number comes from: a dict that has their numbers as keys."""
    found = {}
    waiting = [number]
    while len(waiting) > 0:
        for parent in known_parents(persons[waiting.pop()]):
            # Who was found before isn't walked again, so that a circle ends too.
            if parent not in found:
                found[parent] = True
                waiting.append(parent)
    return found


def descendants(persons, number):
    """Who comes from the person with that number: a list of their numbers."""
    return [other for other in persons if number in ancestors(persons, other)]


def upwards(persons, number):
    """Who is up from the person by any number of steps, the person among them: a dict like that of ancestors."""
    found = ancestors(persons, number)
    found[number] = True
    return found


def common_to(persons, a, b):
    """Who is up from both a and b, as upwards tells it, and has no child who is: a list of their numbers."""
    up_from_b = upwards(persons, b)
    shared = [number for number in upwards(persons, a) if number in up_from_b]
    with_such_a_child = {}
    for number in shared:
        for parent in known_parents(persons[number]):
            with_such_a_child[parent] = True
    return [number for number in shared if number not in with_such_a_child]


def elders_first(persons, numbers):
    """The numbers, parents ahead of their children."""
    # A parent has fewer ancestors than the child, who has all of theirs and the parent besides.
    return sorted(numbers, key=lambda number: len(ancestors(persons, number)))


def with_steps_upwards(persons, steps):
    """The persons, in their order, from whom a line of parents has at least so many steps."""
    left = persons
    for step in range(steps):
        higher = {}
        for number in left:
            if any([parent in left for parent in known_parents(persons[number])]):
                higher[number] = True
        left = higher
    return [persons[number] for number in left]


def levels_upwards(persons, number):
    """For each k from 0 on who is up k from the person, as long as there is one.

    A level has their numbers as keys and, by each, those who come last before them on the ways of k steps to them.
    Nobody may come from themselves: this wouldn't end.
    """
    levels = []
    level = {number: []}
    while len(level) > 0:
        levels.append(level)
        level = level_above(persons, level)
    return levels


def level_above(persons, level):
    """The parents of those in a level: by each the children who are in it."""
    above = {}
    for child in level:
        for parent in known_parents(persons[child]):
            above[parent] = above.get(parent, []) + [child]
    return above
