"""Persons, and their reading from a text's lines."""

from kinfolk.days import read_day
from kinfolk.pieces import ZERO, Unreadable, read_digits, split_at

LINE_FEED = 10
BLANKS = (32, 9)
HASH = 35
LESS_THAN = 60
FEMALE = 102
MALE = 109
NOT_KNOWN = 45
# No person has the number 0.
NOBODY = 0
GREATEST_NUMBER = 9999
MOST_PERSONS = 1024
LONGEST_LINE = 255


class NotFamilies(Exception):
    """A text isn't families; row is the number of the error's line."""

    def __init__(self, row):
        self.row = row


class Person:
    """What a line tells of a person; row is the line's number.

    The parents are the numbers of father and mother, NOBODY for one who isn't known.
    """

    def __init__(self, row, number, sex, birth, death, parents):
        self.row = row
        self.number = number
        self.sex = sex
        self.birth = birth
        self.death = death
        self.parents = parents


def read_persons(text):
    """A text's persons by their numbers, in the order of their lines."""
    persons = {}
    # A line feed at the end leaves an empty run behind it, which says nothing.
    for row, content in enumerate(split_at(text, (LINE_FEED,)), start=1):
        try:
            take_line(persons, content, row)
        except Unreadable:
            raise NotFamilies(row) from None
    return persons


def take_line(persons, content, row):
    """Puts the person of a line, if it has one, to those of the lines before."""
    # A remark isn't read, but it counts for the line's length.
    if len(content) > LONGEST_LINE:
        raise Unreadable()
    words = words_of(content)
    if len(words) == 0:
        return
    person = read_person(words, row)
    if person.number in persons or len(persons) == MOST_PERSONS:
        raise Unreadable()
    persons[person.number] = person


def words_of(content):
    """The words of a line, without its remark."""
    told = split_at(content, (HASH,))[0]
    return [word for word in split_at(told, BLANKS) if len(word) > 0]


def read_person(words, row):
    """The person that a line's words tell of."""
    if len(words) < 5:
        raise Unreadable()
    number = read_number(words[0])
    sex = read_sex(words[1])
    birth = read_day(words[2])
    death = read_day(words[3])
    parents = read_name_and_parents(words[4:])
    return Person(row, number, sex, birth, death, parents)


def read_number(word):
    """The person's number that a word stands for."""
    number = read_digits(word)
    # This refuses the number 0 too.
    if word[0] == ZERO or number > GREATEST_NUMBER:
        raise Unreadable()
    return number


def read_sex(word):
    """FEMALE or MALE, as the word says."""
    if word != [FEMALE] and word != [MALE]:
        raise Unreadable()
    return word[0]


def read_name_and_parents(words):
    """The parents out of the words behind the days; the name is read but not kept."""
    name = words
    parents = (NOBODY, NOBODY)
    if len(words) >= 3 and words[-3] == [LESS_THAN]:
        name = words[:-3]
        parents = (read_parent(words[-2]), read_parent(words[-1]))
    # A < anywhere else than right before two last words stands in the name here.
    if len(name) == 0 or any([LESS_THAN in word for word in name]):
        raise Unreadable()
    return parents


def read_parent(word):
    """The number of a parent, or NOBODY."""
    if word == [NOT_KNOWN]:
        return NOBODY
    return read_number(word)
