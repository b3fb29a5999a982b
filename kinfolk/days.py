"""Days, told in whole, in part or not at all: a tuple of year, month and day."""

from kinfolk.pieces import Unreadable, read_digits, split_at

HYPHEN = 45
QUESTION_MARK = 63
# No year, month or day that can be told is 0.
UNTOLD = 0
LENGTHS_OF_MONTHS = (31, 28, 31, 30, 31, 30, 31, 31, 30, 31, 30, 31)
FEBRUARY = 2
YEARS_TO_A_CHILD = 10


def read_day(word):
    """The day that a word stands for."""
    parts = split_at(word, (HYPHEN,))
    if len(parts) != 3:
        raise Unreadable()
    year = read_part(parts[0], 4, 1000, 9999)
    month = read_part(parts[1], 2, 1, 12)
    day = read_part(parts[2], 2, 1, 31)
    if year == UNTOLD and month != UNTOLD or month == UNTOLD and day != UNTOLD:
        raise Unreadable()
    # From here on a told day has its month and year told too.
    if day != UNTOLD and day > length_of_month(year, month):
        raise Unreadable()
    return (year, month, day)


def read_part(part, width, least, most):
    """A year, month or day of so many digits within its bounds, or UNTOLD."""
    if part == [QUESTION_MARK]:
        return UNTOLD
    if len(part) != width:
        raise Unreadable()
    number = read_digits(part)
    if number < least or number > most:
        raise Unreadable()
    return number


def length_of_month(year, month):
    """How many days the month has in that year."""
    if month == FEBRUARY and is_leap_year(year):
        return 29
    return LENGTHS_OF_MONTHS[month - 1]


def is_leap_year(year):
    """Whether the year has a 29 February, by the Gregorian rule for every year."""
    return year % 400 == 0 or year % 4 == 0 and year % 100 != 0


def may_be_before(one, other):
    """Whether the one day, as far as both are told, isn't after the other."""
    for mine, theirs in zip(one, other):
        if mine == UNTOLD or theirs == UNTOLD:
            return True
        if mine != theirs:
            return mine < theirs
    return True


def may_be_born_to(child, parent):
    """Whether one born on the day child may have a parent born on the day parent."""
    if child[0] == UNTOLD or parent[0] == UNTOLD:
        return True
    # Where years are so far apart, months and days can't turn round which is before.
    return child[0] - parent[0] >= YEARS_TO_A_CHILD
