"""Promise 3: the kinship of two, times 2 ** 62."""

import functools
import unittest
from fractions import Fraction

from kinfolk import families
from tests.helpers import (
    AnswersOfTwo, backwards, brothers_and_sisters, encode, family, parents_of, random_family, soon
)

WHOLE = 2 ** 62
TIMES = 300


def by_definition(parents):
    """The document's definition, as a function of two numbers or None."""

    @functools.cache
    def ancestors(number):
        return {number}.union(*[ancestors(parent) for parent in parents[number] if parent is not None])

    @functools.cache
    def kinship(a, b):
        if a is None or b is None:
            return Fraction(0)
        if a == b:
            return (1 + kinship(*parents[a])) / 2
        if a in ancestors(b):
            return kinship(b, a)
        return (kinship(parents[a][0], b) + kinship(parents[a][1], b)) / 2

    return kinship


def by_ways(parents):
    """The same by a sum over all pairs of ways to a common ancestor that have nobody else in common."""

    @functools.cache
    def ways_up(number):
        ways = [(number,)]
        for parent in parents[number]:
            if parent is not None:
                ways.extend((number,) + way for way in ways_up(parent))
        return ways

    @functools.cache
    def kinship(a, b):
        if a is None or b is None:
            return Fraction(0)
        total = Fraction(0)
        for one in ways_up(a):
            for other in ways_up(b):
                if one[-1] == other[-1] and set(one) & set(other) == {one[-1]}:
                    total += Fraction(1, 2 ** (len(one) + len(other) - 1)) * (1 + kinship(*parents[one[-1]]))
        return total

    return kinship


class Answer(AnswersOfTwo, unittest.TestCase):
    call = families.kinship

    def test_is_0_and_a_number(self):
        self.assertEqual(self.ask(1, 1, self.text), [0, 2 ** 61])
        self.assertEqual(self.ask(3, 1, self.text), [0, 2 ** 60])
        self.assertEqual(self.ask(1, 2, self.text), [0, 0])


class Case(unittest.TestCase):
    def told(self, expected, a, b, text):
        """Expects that part of 2 ** 62, whatever the order of the lines and of a and b."""
        self.assertEqual((Fraction(expected) * WHOLE).denominator, 1)
        for lines in (text, backwards(text)):
            for one, other in ((a, b), (b, a)):
                with self.subTest(a=one, b=other, text=lines):
                    self.assertEqual(families.kinship(one, other, encode(lines)), [0, Fraction(expected) * WHOLE])


class WithOneself(Case):
    def test_without_parents(self):
        self.told("1/2", 1, 1, family("1m"))
        self.told("1/2", 2, 2, family("1m 2f"))

    def test_with_one_parent_known(self):
        self.told("1/2", 3, 3, family("1m 2f 3f:1:-"))
        self.told("1/2", 3, 3, family("1m 2f 3f:-:2"))

    def test_with_parents_who_have_nothing_in_common(self):
        self.told("1/2", 3, 3, family("1m 2f 3f:1:2"))
        self.told("1/2", 7, 7, family("1m 2f 3m:1:2 4m 5f 6f:4:5 7f:3:6"))

    def test_with_parents_who_are_brother_and_sister(self):
        self.told("5/8", 5, 5, family("1m 2f 3m:1:2 4f:1:2 5m:3:4"))

    def test_with_parents_who_are_half_brother_and_sister(self):
        self.told("9/16", 5, 5, family("1m 2f 3m:1:2 4f:1:- 5m:3:4"))
        self.told("9/16", 5, 5, family("1m 2f 3m:-:2 4f:1:2 5m:3:4"))

    def test_with_parents_who_are_cousins(self):
        self.told("17/32", 9, 9, family("1m 2f 3m:1:2 4f:1:2 5m 6f 7m:3:6 8f:5:4 9f:7:8"))

    def test_with_parents_who_are_parent_and_child(self):
        self.told("5/8", 4, 4, family("1m 2f 3f:1:2 4m:1:3"))
        self.told("5/8", 4, 4, family("1m 2f 3m:1:2 4m:3:2"))

    def test_with_parents_who_are_grandparent_and_grandchild(self):
        self.told("9/16", 5, 5, family("1m 2f 3f:1:2 4f:-:3 5m:1:4"))

    def test_brothers_and_sisters_over_several_steps(self):
        text = brothers_and_sisters(7)
        for number, expected in (
            (1, "1/2"), (2, "1/2"), (3, "1/2"), (4, "1/2"), (5, "5/8"), (6, "5/8"), (7, "11/16"), (8, "11/16"),
            (9, "3/4"), (10, "3/4"), (11, "51/64"), (12, "51/64"), (13, "107/128"),
        ):
            self.told(expected, number, number, text)

    def test_father_and_daughter_over_several_steps(self):
        text = family("1m 2f 3f:1:2 4f:1:3 5f:1:4 6f:1:5")
        for number, expected in ((3, "1/2"), (4, "5/8"), (5, "11/16"), (6, "23/32")):
            self.told(expected, number, number, text)


class OfTwo(Case):
    def test_nothing_in_common(self):
        text = family("1m 2f 3m:1:2 4m 5f 6f:4:5 7f:3:6 8f:-:- 9f:-:-")
        for a, b in ((1, 2), (1, 4), (3, 6), (3, 4), (7, 8), (8, 9), (2, 6)):
            self.told(0, a, b, text)

    def test_who_have_only_the_not_known_in_common(self):
        self.told(0, 3, 4, family("1m 2f 3m:1:- 4f:-:2"))
        self.told(0, 3, 4, family("1m 2m 3m:1:- 4f:2:-"))

    def test_parent_and_child(self):
        text = family("1m 2f 3f:1:2 4f:1:- 5m:-:2")
        for a, b in ((1, 3), (2, 3), (1, 4), (2, 5)):
            self.told("1/4", a, b, text)

    def test_grandparents_and_further_up(self):
        text = family("1m 2f 3f:1:2 4m:-:3 5f:4:-")
        self.told("1/8", 1, 4, text)
        self.told("1/8", 2, 4, text)
        self.told("1/16", 1, 5, text)
        self.told("1/8", 3, 5, text)

    def test_parent_and_child_who_are_related_otherwise_too(self):
        # 3 is 4's mother and half-sister; 4's father is 3's too.
        text = family("1m 2f 3f:1:2 4m:1:3")
        self.told("3/8", 3, 4, text)
        self.told("3/8", 1, 4, text)
        self.told("1/8", 2, 4, text)

    def test_brothers_and_sisters(self):
        text = family("1m 2f 3f:1:2 4m:1:2 5f:1:2")
        for a, b in ((3, 4), (3, 5), (4, 5)):
            self.told("1/4", a, b, text)

    def test_half_brothers_and_sisters(self):
        text = family("1m 2f 3f 4f:1:2 5m:1:3 6m:1:- 7f:1:-")
        for a, b in ((4, 5), (4, 6), (5, 6), (6, 7)):
            self.told("1/8", a, b, text)

    def test_brothers_and_sisters_whose_parents_are_brother_and_sister(self):
        self.told("3/8", 5, 6, family("1m 2f 3m:1:2 4f:1:2 5m:3:4 6f:3:4"))

    def test_aunts_and_nieces(self):
        text = family("1m 2f 3f:1:2 4f:1:2 5f:-:4 6m:-:5")
        self.told("1/8", 3, 5, text)
        self.told("1/16", 3, 6, text)

    def test_cousins(self):
        text = family("1m 2f 3m:1:2 4f:1:2 5m 6f 7m:3:6 8f:5:4 9f:7:- 10m:-:8")
        self.told("1/16", 7, 8, text)
        self.told("1/32", 7, 10, text)
        self.told("1/32", 9, 8, text)
        self.told("1/64", 9, 10, text)

    def test_half_cousins(self):
        self.told("1/32", 6, 7, family("1m 2f 3f 4m:1:2 5f:1:3 6f:4:- 7m:-:5"))

    def test_double_cousins(self):
        self.told("1/8", 9, 10, family("1m 2f 3m:1:2 4m:1:2 5m 6f 7f:5:6 8f:5:6 9f:3:7 10m:4:8"))

    def test_whose_common_ancestor_has_related_parents(self):
        # 5 is the child of brother and sister, and the one ancestor that 8 and 9 have in common by different children.
        text = family("1m 2f 3m:1:2 4f:1:2 5m:3:4 6f 7f 8m:5:6 9f:5:7")
        self.told("5/32", 8, 9, text)

    def test_of_all_sorts(self):
        for seed in range(TIMES):
            text = random_family(seed)
            parents = parents_of(text)
            defined, summed = by_definition(parents), by_ways(parents)
            for a in parents:
                for b in parents:
                    answer = families.kinship(a, b, encode(text))
                    self.assertEqual(answer, [0, defined(a, b) * WHOLE], (a, b, text))
                    self.assertEqual(answer, [0, summed(a, b) * WHOLE], (a, b, text))


class Exactness(Case):
    def test_a_line_of_thirty_steps(self):
        text = family(" ".join("%dm:%d:-" % (number, number + 1) for number in range(1, 31)) + " 31m")
        for steps in range(1, 31):
            self.told(Fraction(1, 2 ** (steps + 1)), 1, 1 + steps, text)
            self.told(Fraction(1, 2 ** (31 - steps + 1)), steps, 31, text)

    def test_two_lines_of_thirty_steps(self):
        for parents, at_the_bottom in ((":1:2", 4), (":1:-", 2), (":-:2", 2)):
            words = ["1m 2f 101m%s 201f%s" % (parents, parents)]
            for step in range(1, 30):
                words.append("%dm:%d:- %df:-:%d" % (101 + step, 100 + step, 201 + step, 200 + step))
            text = family(" ".join(words))
            self.assertEqual(families.kinship(130, 230, encode(text)), [0, at_the_bottom])
            for i, j in ((1, 1), (30, 1), (1, 30), (29, 30), (17, 12), (30, 30)):
                self.told(Fraction(at_the_bottom * 2 ** (60 - i - j), WHOLE), 100 + i, 200 + j, text)

    def test_very_many_ways(self):
        text = brothers_and_sisters(31)
        kinship = by_definition(parents_of(text))
        with soon():
            for a, b in ((61, 61), (61, 62), (62, 60), (61, 1), (62, 2), (31, 60), (3, 62), (1, 2), (59, 61), (33, 34)):
                self.told(kinship(a, b), a, b, text)

    def test_very_many_ways_of_different_lengths(self):
        # Each is the child of the two before: the chances have ever more digits, none of which may be lost.
        words = ["1m 2f"]
        for number in range(3, 32):
            sex = "fm"[number % 2]
            father, mother = (number - 2, number - 1) if number % 2 == 1 else (number - 1, number - 2)
            words.append("%d%s:%d:%d" % (number, sex, father, mother))
        text = family(" ".join(words))
        kinship = by_definition(parents_of(text))
        with soon():
            for a, b in ((31, 31), (31, 30), (31, 1), (2, 31), (30, 17), (16, 31)):
                self.told(kinship(a, b), a, b, text)

    def test_as_many_persons_as_a_text_holds(self):
        # Four in each generation, each the child of two of the four before.
        words = ["1m 2f 3m 4f"]
        for first in range(5, 121, 4):
            words.append("%dm:%d:%d %df:%d:%d" % (first, first - 4, first - 3, first + 1, first - 4, first - 1))
            words.append("%dm:%d:%d %df:%d:%d" % (first + 2, first - 2, first - 3, first + 3, first - 2, first - 1))
        text = family(" ".join(words))
        self.assertLessEqual(len(text), 4000)
        kinship = by_definition(parents_of(text))
        with soon():
            for a, b in ((117, 117), (117, 120), (119, 118), (1, 120), (64, 113), (2, 3)):
                self.told(kinship(a, b), a, b, text)


if __name__ == "__main__":
    unittest.main()
