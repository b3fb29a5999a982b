"""The words for what one person is to another."""

from kinfolk.persons import FEMALE, NOBODY

ENDINGS = {1: "st", 2: "nd", 3: "rd"}


def words_for(steps, one, other):
    """What the other is to the one, if steps is the nearest (i, j) that they meet by, or None."""
    if steps is None:
        return "none"
    i = steps[0]
    j = steps[1]
    if i == 0 and j == 0:
        return "self"
    if j == 0:
        return in_line(i, by_sex(other, "mother", "father"))
    if i == 0:
        return in_line(j, by_sex(other, "daughter", "son"))
    if i == 1 and j == 1:
        return half(one, other) + by_sex(other, "sister", "brother")
    if j == 1:
        return great(i - 2) + by_sex(other, "aunt", "uncle")
    if i == 1:
        return great(j - 2) + by_sex(other, "niece", "nephew")
    return cousin(i, j)


def by_sex(person, of_female, of_male):
    """That one of two words that fits the person."""
    return of_female if person.sex == FEMALE else of_male


def great(times):
    """So many times great-."""
    return "great-" * times


def in_line(steps, word):
    """The word for a parent or a child, as it is from so many steps off."""
    if steps == 1:
        return word
    return great(steps - 2) + "grand" + word


def half(one, other):
    """What stands before the word for two who have a parent in common."""
    if one.parents == other.parents and NOBODY not in one.parents:
        return ""
    return "half-"


def cousin(i, j):
    """The words for cousins who meet by (i, j)."""
    words = ordinal(min(i, j) - 1) + " cousin"
    if i != j:
        removed = abs(i - j)
        words = f"{words}, {removed} removed"
    return words


def ordinal(number):
    """The number as 1st, 2nd and so on; no line of parents lets it go beyond 29."""
    ending = "th" if number in (11, 12, 13) else ENDINGS.get(number % 10, "th")
    return f"{number}{ending}"
