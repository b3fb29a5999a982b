"""The calls: what can be asked of a text of families."""

from kinfolk.days import may_be_before, may_be_born_to
from kinfolk.genes import kinship_of
from kinfolk.lineage import ancestors, common_to, descendants, known_parents, with_steps_upwards
from kinfolk.persons import FEMALE, MALE, NOBODY, NotFamilies, read_persons
from kinfolk.relations import nearest
from kinfolk.wording import words_for

MOST_STEPS = 30


class WrongQuestion(Exception):
    """A number that is handed in besides the text isn't one that can be asked with."""


def check(text):
    """0 if the text is families, else the number of the error's line."""
    try:
        read_families(text)
    except NotFamilies as e:
        return [e.row]
    return [0]


def relation(a, b, text):
    """0, then the bytes of the words for what b is to a; or a refusal."""
    return answer(tell_relation, a, b, text)


def kinship(a, b, text):
    """0, then the kinship of a with b times 2 ** 62; or a refusal."""
    return answer(tell_kinship, a, b, text)


def common(a, b, text):
    """How many are the nearest whom both a and b come from or are, then their numbers; or a refusal."""
    return answer(tell_common, a, b, text)


def line(a, down, text):
    """How many come from a (down 1), or from how many a comes (down 0), then their numbers; or a refusal."""
    return answer(tell_line, a, down, text)


def answer(tell, one, other, text):
    """What tell says of the text's persons and the two numbers; else -1 (no families) or -2 (a wrong number)."""
    try:
        return tell(read_families(text), one, other)
    except NotFamilies:
        return [-1]
    except WrongQuestion:
        return [-2]


def refuse_unknown(persons, numbers):
    """Refuses the question if one of the numbers is no person's."""
    if any([number not in persons for number in numbers]):
        raise WrongQuestion()


def tell_relation(persons, a, b):
    """0, then the bytes of the words for what b is to a."""
    refuse_unknown(persons, (a, b))
    words = words_for(nearest(persons, a, b), persons[a], persons[b])
    return [0] + [ord(letter) for letter in words]


def tell_kinship(persons, a, b):
    """0, then the kinship of a with b times 2 ** 62."""
    refuse_unknown(persons, (a, b))
    return [0, kinship_of(persons, a, b)]


def tell_common(persons, a, b):
    """How many are up from both a and b and have no child who is, then their numbers."""
    refuse_unknown(persons, (a, b))
    return counted(common_to(persons, a, b))


def tell_line(persons, a, down):
    """How many come from a (down 1), or from how many a comes (down 0), then their numbers."""
    refuse_unknown(persons, (a,))
    if down == 1:
        return counted(descendants(persons, a))
    if down == 0:
        return counted(list(ancestors(persons, a)))
    raise WrongQuestion()


def counted(numbers):
    """How many numbers there are, then these, the lesser first."""
    return [len(numbers)] + sorted(numbers)


def read_families(text):
    """The persons of a text that is families, by their numbers."""
    persons = read_persons(text)
    # Each of these relies on what the ones before it have refused.
    refuse_first([person for person in persons.values() if has_wrong_parent(persons, person)])
    refuse_first([person for person in persons.values() if person.number in ancestors(persons, person.number)])
    refuse_first(with_steps_upwards(persons, MOST_STEPS + 1))
    refuse_first([person for person in persons.values() if not days_fit(persons, person)])
    return persons


def refuse_first(wrong):
    """Refuses the text at the first of the persons that something is wrong with."""
    if len(wrong) > 0:
        raise NotFamilies(wrong[0].row)


def has_wrong_parent(persons, person):
    """Whether a parent stands in no line, or is a father who isn't m or a mother who isn't f."""
    for parent, sex in zip(person.parents, (MALE, FEMALE)):
        if parent != NOBODY and (parent not in persons or persons[parent].sex != sex):
            return True
    return False


def days_fit(persons, person):
    """Whether the person's own days and the parents' days against the person's birth can be so."""
    if not may_be_before(person.birth, person.death):
        return False
    for number in known_parents(person):
        parent = persons[number]
        if not may_be_born_to(person.birth, parent.birth):
            return False
        # A father may have died before his child's birth.
        if parent.sex == FEMALE and not may_be_before(person.birth, parent.death):
            return False
    return True
