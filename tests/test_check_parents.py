"""Promise 1: parents, lines of parents, and which of several errors is told."""

import unittest

from kinfolk import families
from tests.helpers import encode, person


def check(text):
    return families.check(encode(text))


def line_of_fathers(steps, first=1):
    """So many steps up from the first one's line, which is the text's first."""
    last = first + steps
    return [person(number, father=number + 1) for number in range(first, last)] + [person(last)]


class Parents(unittest.TestCase):
    def test_in_lines_before_and_behind(self):
        father, mother, child = person(1), person(2, "f"), person(3, "f", 1, 2)
        for text in (father + mother + child, child + mother + father, mother + child + father):
            self.assertEqual(check(text), [0])

    def test_nowhere(self):
        self.assertEqual(check(person(1, father=7)), [1])
        self.assertEqual(check(person(1, mother=7)), [1])
        self.assertEqual(check(person(1) + person(11, father=1) + "\n" + person(3, father=111)), [4])
        self.assertEqual(check(person(1) + "# " + person(2, "f") + person(3, father=1, mother=2)), [3])

    def test_of_the_wrong_kind(self):
        self.assertEqual(check(person(1, "f") + person(2, father=1)), [2])
        self.assertEqual(check(person(1, "m") + person(2, mother=1)), [2])
        self.assertEqual(check(person(2, "f", 3, 1) + person(1, "m") + person(3, "f")), [1])
        self.assertEqual(check(person(1, "m") + person(2, father=1, mother=1)), [2])
        self.assertEqual(check(person(1, "f") + person(2, father=1, mother=1)), [2])

    def test_the_first_of_both_sorts_of_fault(self):
        nowhere, wrong = person(2, father=7), person(3, mother=1)
        self.assertEqual(check(person(1) + nowhere + wrong), [2])
        self.assertEqual(check(person(1) + wrong + nowhere), [2])
        self.assertEqual(check(nowhere + wrong + person(1)), [1])
        self.assertEqual(check(wrong + nowhere + person(1)), [1])

    def test_marriages_within_a_family(self):
        # The same ancestors by many ways are nobody's own.
        lines = [person(1), person(2, "f")]
        for number in range(3, 61, 2):
            lines.append(person(number, "m", number - 2, number - 1))
            lines.append(person(number + 1, "f", number - 2, number - 1))
        self.assertEqual(check("".join(lines)), [0])
        self.assertEqual(check("".join(reversed(lines))), [0])


class ComingFromOneself(unittest.TestCase):
    def test_in_one_step(self):
        self.assertEqual(check(person(1, "m", 1)), [1])
        self.assertEqual(check("\n" + person(1, "f", "-", 1)), [2])

    def test_in_more_steps(self):
        self.assertEqual(check(person(1, "m", 2) + person(2, "m", 1)), [1])
        self.assertEqual(check(person(9) + person(1, "m", "-", 2) + person(2, "f", 3) + person(3, "m", 1)), [2])
        self.assertEqual(check(person(9) + person(1, "m", 9, 2) + person(2, "f", 9, 3) + person(3, "f", 1)), [2])

    def test_in_more_than_thirty_steps(self):
        ring = [person(number, father=number % 60 + 1) for number in range(1, 61)]
        self.assertEqual(check("".join(ring)), [1])
        self.assertEqual(check("# a\n" + "".join(ring)), [2])

    def test_who_only_comes_from_such_a_one_is_not_told(self):
        ring = person(2, "m", 3) + person(3, "m", 2)
        self.assertEqual(check(person(1, "m", 2) + ring), [2])
        self.assertEqual(check(person(5, "m", 4) + person(4, "m", 2) + ring), [3])
        self.assertEqual(check(person(1, "m", 2) + person(2, "m", 2)), [2])

    def test_who_is_only_above_such_a_one_is_not_told(self):
        self.assertEqual(check(person(4) + person(2, "m", 3, "-") + person(3, "m", 2, 5) + person(5, "f", 4)), [2])


class LinesOfParents(unittest.TestCase):
    def test_of_30_and_of_31_steps(self):
        for first in (1, 500):
            self.assertEqual(check("".join(line_of_fathers(30, first))), [0])
            self.assertEqual(check("".join(reversed(line_of_fathers(30, first)))), [0])
            self.assertEqual(check("".join(line_of_fathers(31, first))), [1])
            self.assertEqual(check("".join(reversed(line_of_fathers(31, first)))), [32])

    def test_the_first_line_of_several_from_whom_it_is_too_long(self):
        lines = line_of_fathers(33)
        self.assertEqual(check("".join(lines)), [1])
        self.assertEqual(check("".join(reversed(lines))), [32])
        # Those 31, 32 and 33 steps below the last stand at places 3, 2 and 1.
        self.assertEqual(check("".join(lines[3:] + [lines[1], lines[0], lines[2]])), [32])
        self.assertEqual(check("".join(lines[3:10] + [lines[2]] + lines[10:] + lines[:2])), [8])

    def test_by_mothers_and_by_both(self):
        by_mothers = [person(number, "f", mother=number + 1) for number in range(1, 32)] + [person(32, "f")]
        self.assertEqual(check("".join(by_mothers[1:])), [0])
        self.assertEqual(check("".join(by_mothers)), [1])
        in_turn = []
        for number in range(1, 32):
            if number % 2 == 1:
                in_turn.append(person(number, "m", mother=number + 1))
            else:
                in_turn.append(person(number, "f", father=number + 1))
        in_turn.append(person(32, "f"))
        self.assertEqual(check("".join(in_turn[1:])), [0])
        self.assertEqual(check("".join(in_turn)), [1])

    def test_the_longer_of_two_lines(self):
        lines = line_of_fathers(30)
        mother = person(100, "f")
        self.assertEqual(check(person(99, "m", 1, 100) + mother + "".join(lines)), [1])
        self.assertEqual(check(person(99, "m", 2, 100) + mother + "".join(lines)), [0])
        # Both lines from one person have 30 steps; together they have more.
        others = [person(200 + number, "f", mother=201 + number) for number in range(29)] + [person(229, "f")]
        self.assertEqual(check(person(99, "m", 2, 200) + "".join(lines + others)), [0])

    def test_far_more_than_31_steps(self):
        lines = line_of_fathers(120)
        self.assertLessEqual(len("".join(lines)), 4000)
        self.assertEqual(check("".join(lines)), [1])
        self.assertEqual(check("".join(reversed(lines))), [32])

    def test_many_ways_of_30_and_of_31_steps(self):
        lines = []
        for number in range(1, 63, 2):
            lines.append(person(number, "m", number + 2, number + 3))
            lines.append(person(number + 1, "f", number + 2, number + 3))
        top = person(63, "m") + person(64, "f")
        self.assertEqual(check("".join(lines[2:]) + top), [0])
        self.assertEqual(check("\n" + "".join(lines) + top), [2])


class WhichOfSeveralErrors(unittest.TestCase):
    UNREADABLE = "x\n"
    TWICE = person(901)
    NOWHERE = person(902, father=777)
    OWN = person(903, "m", 903)
    LONG = "".join(line_of_fathers(31))
    MISFIT = person(904, birth="1902-?-?", death="1901-?-?")

    def told(self, text, line):
        self.assertEqual(check(person(901) + text), [line])

    def test_each_by_itself(self):
        for fault in (self.UNREADABLE, self.TWICE, self.NOWHERE, self.OWN, self.LONG, self.MISFIT):
            self.told("# a\n\n" + fault, 4)

    def test_the_first_of_one_sort(self):
        self.told(self.UNREADABLE + self.UNREADABLE, 2)
        self.told(self.UNREADABLE + self.TWICE, 2)
        self.told(self.TWICE + self.UNREADABLE, 2)
        self.told(self.TWICE + self.TWICE, 2)
        self.told(self.NOWHERE + person(905, father=777), 2)
        self.told(self.OWN + person(905, father=905), 2)
        self.told(self.MISFIT + self.MISFIT.replace("904", "905"), 2)
        self.told("#" * 256 + "\n" + self.TWICE, 2)
        self.told(self.TWICE + "#" * 256 + "\n", 2)

    def test_a_sort_that_goes_before_another_though_it_stands_behind(self):
        for first in (self.UNREADABLE, self.TWICE, "#" * 256):
            for second in (self.NOWHERE, self.OWN, self.MISFIT):
                self.told(second + "\n" + first, 4)
                self.told(first + "\n" + second, 2)
            self.told(self.LONG + first, 34)
        for second in (self.OWN, self.MISFIT):
            self.told(second + "\n" + self.NOWHERE, 4)
            self.told(self.NOWHERE + second, 2)
        self.told(self.LONG + self.NOWHERE, 34)
        self.told(self.MISFIT + self.OWN, 3)
        self.told(self.OWN + self.MISFIT, 2)
        self.told(self.LONG + self.OWN, 34)
        self.told(self.MISFIT + self.LONG, 3)
        self.told(self.LONG + self.MISFIT, 2)

    def test_all_of_them(self):
        self.told(self.MISFIT + self.LONG, 3)
        self.told(self.MISFIT + self.LONG + self.OWN, 35)
        self.told(self.MISFIT + self.LONG + self.OWN + self.NOWHERE, 36)
        self.told(self.MISFIT + self.LONG + self.OWN + self.NOWHERE + self.TWICE, 37)
        self.told(self.MISFIT + self.LONG + self.OWN + self.NOWHERE + self.TWICE + self.UNREADABLE, 37)
        self.told(self.MISFIT + self.LONG + self.OWN + self.NOWHERE + self.UNREADABLE + self.TWICE, 37)

    def test_wrong_kind_and_days_of_one_parent(self):
        # The mother in line 1 isn't one; that her days don't fit her child either isn't looked at first.
        text = person(1, "m", birth="1950-?-?") + person(2, birth="1990-?-?", death="1980-?-?")
        self.assertEqual(check(text + person(3, mother=1, birth="1900-?-?")), [3])

    def test_days_along_a_ring(self):
        ring = person(1, "m", 2, birth="1950-?-?") + person(2, "m", 1, birth="1900-?-?")
        self.assertEqual(check(person(3, birth="1950-?-?", death="1940-?-?") + ring), [2])

    def test_own_days_and_parents_days_are_of_one_sort(self):
        own = person(1, birth="1902-?-?", death="1901-?-?")
        young = person(2, father=3, birth="1950-?-?")
        father = person(3, birth="1945-?-?")
        late = person(4, mother=5, birth="1950-?-?")
        mother = person(5, "f", death="1949-?-?")
        for lines, line in (
            ([father, mother, own, young, late], 3), ([father, mother, young, own, late], 3),
            ([father, mother, late, own, young], 3), ([late, young, own, mother, father], 1),
            ([father, young, mother, late, own], 2), ([mother, father, late, own, young], 3),
        ):
            self.assertEqual(check("".join(lines)), [line])


if __name__ == "__main__":
    unittest.main()
