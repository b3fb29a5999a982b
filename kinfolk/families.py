"""The calls: what can be asked of a text of families."""

from kinfolk.days import may_be_before, may_be_born_to
from kinfolk.lineage import ancestors, known_parents, with_steps_upwards
from kinfolk.persons import FEMALE, MALE, NOBODY, NotFamilies, read_persons

MOST_STEPS = 30


def check(text):
    """0 if the text is families, else the number of the error's line."""
    try:
        read_families(text)
    except NotFamilies as e:
        return [e.row]
    return [0]


def read_families(text):
    """The persons of a text that is families, by their numbers."""
    persons = read_persons(text)
    # Each of these relies on what the ones before it have refused.
    refuse_first([person for person in persons.values() if has_wrong_parent(persons, person)])
    refuse_first([person for person in persons.values() if person.number in ancestors(persons, person.number)])
    refuse_first(with_steps_upwards(persons, MOST_STEPS + 1))
    refuse_first([person for person in persons.values() if not days_fit(persons, person)])
    return persons


def refuse_first(wrong):
    """Refuses the text at the first of the persons that something is wrong with."""
    if len(wrong) > 0:
        raise NotFamilies(wrong[0].row)


def has_wrong_parent(persons, person):
    """Whether a parent stands in no line, or is a father who isn't m or a mother who isn't f."""
    for parent, sex in zip(person.parents, (MALE, FEMALE)):
        if parent != NOBODY and (parent not in persons or persons[parent].sex != sex):
            return True
    return False


def days_fit(persons, person):
    """Whether the person's own days and the parents' days against the person's birth can be so."""
    if not may_be_before(person.birth, person.death):
        return False
    for number in known_parents(person):
        parent = persons[number]
        if not may_be_born_to(person.birth, parent.birth):
            return False
        # A father may have died before his child's birth.
        if parent.sex == FEMALE and not may_be_before(person.birth, parent.death):
            return False
    return True
