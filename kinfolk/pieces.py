"""What the reading of lines, of words and of days has in common."""

ZERO = 48
NINE = 57


class Unreadable(Exception):
    """A line isn't one that a text may have at that place."""


def split_at(values, marks):
    """The runs of values before, between and behind the marks; some may be empty."""
    runs = []
    run = []
    for value in values:
        if value in marks:
            runs.append(run)
            run = []
        else:
            run.append(value)
    runs.append(run)
    return runs


def read_digits(word):
    """The number that a word of digits alone stands for."""
    number = 0
    for byte in word:
        if byte < ZERO or byte > NINE:
            raise Unreadable()
        number = number * 10 + byte - ZERO
    return number
