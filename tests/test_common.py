"""Promise 4: whom two both come from or are, without those who have such a child."""

import unittest

from kinfolk import families
from tests.helpers import (
    AnswersOfTwo, backwards, brothers_and_sisters, encode, family, parents_of, random_family, soon
)

TIMES = 300


def by_definition(parents, a, b):
    """The answer by the document's words, from fathers and mothers."""

    def up_from(number):
        found = {number}
        for parent in parents[number]:
            if parent is not None:
                found |= up_from(parent)
        return found

    both = up_from(a) & up_from(b)
    left = sorted(number for number in both if not any(number in parents[child] for child in both))
    return [len(left)] + left


class Answer(AnswersOfTwo, unittest.TestCase):
    call = families.common

    def test_is_how_many_and_the_numbers(self):
        self.assertEqual(self.ask(1, 1, self.text), [1, 1])
        self.assertEqual(self.ask(3, 1, self.text), [1, 1])
        self.assertEqual(self.ask(1, 2, self.text), [0])


class Common(unittest.TestCase):
    def told(self, expected, a, b, text):
        """Expects these numbers, whatever the order of the lines and of a and b."""
        for lines in (text, backwards(text)):
            for one, other in ((a, b), (b, a)):
                with self.subTest(a=one, b=other, text=lines):
                    self.assertEqual(families.common(one, other, encode(lines)), [len(expected)] + expected)

    def test_one_with_oneself(self):
        text = family("1m 2f 3f:1:2 4m:1:2 5f:4:3")
        for number in range(1, 6):
            self.told([number], number, number, text)

    def test_nobody(self):
        text = family("1m 2f 3m:1:2 4m 5f 6f:4:5 7f:3:6 8m:3:6")
        for a, b in ((1, 2), (1, 4), (3, 6), (3, 5), (2, 6)):
            self.told([], a, b, text)

    def test_the_not_known_are_nobody(self):
        self.told([], 1, 2, family("1m:-:- 2f:-:-"))
        self.told([], 3, 4, family("1m 2m 3m:1:- 4f:2:-"))
        self.told([1], 3, 4, family("1m 2m 3m:1:- 4f:1:-"))

    def test_one_the_others_ancestor(self):
        text = family("1m 2f 3f:1:2 4m:-:3 5f:4:-")
        self.told([1], 1, 3, text)
        self.told([2], 2, 3, text)
        self.told([1], 1, 4, text)
        self.told([3], 3, 5, text)
        self.told([2], 2, 5, text)
        self.told([4], 4, 5, text)

    def test_one_the_others_ancestor_by_several_ways(self):
        self.told([1], 1, 4, family("1m 2f 3f:1:2 4m:1:3"))
        self.told([3], 3, 4, family("1m 2f 3f:1:2 4m:1:3"))
        self.told([1], 1, 5, family("1m 2f 3m:1:2 4f:1:2 5m:3:4"))

    def test_brothers_and_sisters(self):
        text = family("1m 2f 3f:1:2 4m:1:2 5f:1:2")
        for a, b in ((3, 4), (3, 5), (4, 5)):
            self.told([1, 2], a, b, text)

    def test_half_brothers_and_sisters(self):
        text = family("1m 2f 3m 4f 5f:1:2 6m:1:4 7f:3:2 8m:1:-")
        self.told([1], 5, 6, text)
        self.told([2], 5, 7, text)
        self.told([], 6, 7, text)
        self.told([1], 5, 8, text)

    def test_cousins(self):
        text = family("1m 2f 3m:1:2 4f:1:2 5m 6f 7m:3:6 8f:5:4 9f:7:- 10m:-:8")
        for a, b in ((7, 8), (7, 10), (9, 8), (9, 10), (4, 7), (4, 9)):
            self.told([1, 2], a, b, text)

    def test_half_cousins(self):
        self.told([1], 6, 7, family("1m 2f 3f 4m:1:2 5f:1:3 6f:4:- 7m:-:5"))

    def test_double_cousins(self):
        self.told([1, 2, 5, 6], 9, 10, family("1m 2f 3m:1:2 4m:1:2 5m 6f 7f:5:6 8f:5:6 9f:3:7 10m:4:8"))

    def test_those_above_are_left_out(self):
        # 5 and 6 have the parents 3 and 4, and all who are above these.
        text = family("1m 2f 7m 8f 3m:1:2 4f:7:8 5f:3:4 6m:3:4")
        self.told([3, 4], 5, 6, text)
        # 9 has only the father 3, with 1 and 2 above him.
        self.told([3], 5, 9, text + family("9m:3:-"))

    def test_those_above_are_left_out_over_several_steps(self):
        text = family("1m 2m:1:- 3m:2:- 4m:3:- 5m:4:- 6f:4:- 7f:-:6")
        self.told([4], 5, 6, text)
        self.told([4], 5, 7, text)
        self.told([6], 6, 7, text)

    def test_who_has_such_a_child_is_left_out_whatever_other_children_there_are(self):
        # 1 is above 7 and 8 by 3 and also by 4 and 5, but 3 is above both too.
        text = family("1m 2f 3m:1:2 4f:1:2 5f:1:2 7f:3:4 8f:3:5")
        self.told([3], 7, 8, text)

    def test_whose_children_are_not_so_is_kept(self):
        # 3 is above both 7 and 8; so is 6, by children who are not: 4 is above 7 alone, 5 above 8 alone.
        text = family("1m 2f 3m:1:2 6m 4f:6:- 5f:6:- 7f:3:4 8f:3:5")
        self.told([3, 6], 7, 8, text)

    def test_a_far_one_is_kept_beside_a_near_one(self):
        # 10 is four steps above both, by ways that have nobody else in common; 3 is one step above.
        words = "3m 10f 11f:-:10 21f:-:10 12f:-:11 22f:-:21 13f:-:12 23f:-:22 14f:3:13 24f:3:23"
        self.told([3, 10], 14, 24, family(words))

    def test_who_has_such_a_grandchild_is_left_out(self):
        # 1 is above 5 by 3 and above 6 by 4, but above both by 8 and 7 too.
        self.told([7], 5, 6, family("1m 8m:1:- 7m:8:- 3f:1:- 4f:1:- 5f:7:3 6f:7:4"))

    def test_numbers_in_order(self):
        for numbers in ((1, 2, 3, 4), (4, 3, 2, 1), (10, 9, 2, 100), (9999, 1, 5000, 12), (99, 100, 9, 1000)):
            one, two, three, four = numbers
            text = family("%dm %df %dm %df 51m:%d:%d 52m:%d:%d 53f:%d:%d 54f:%d:%d 61f:51:53 62m:52:54" % (
                one, two, three, four, one, two, one, two, three, four, three, four
            ))
            self.told(sorted(numbers), 61, 62, text)
        lines = family("1m 20f 3m 100f 51m:1:20 52m:1:20 53f:3:100 54f:3:100 61f:51:53 62m:52:54").splitlines(True)
        for turn in range(len(lines)):
            self.told([1, 3, 20, 100], 61, 62, "".join(lines[turn:] + lines[:turn]))

    def test_very_many_ways(self):
        text = brothers_and_sisters(31)
        with soon():
            self.told([59, 60], 61, 62, text)
            self.told([1], 61, 1, text)
            self.told([2], 2, 62, text)
            self.told([31], 62, 31, text)
            self.told([1, 2], 3, 4, text)
            self.told([], 1, 2, text)

    def test_very_many_ways_to_two_far_up(self):
        # Two families of brothers and sisters that have nobody in common but the two at the top.
        left = brothers_and_sisters(28)
        below = brothers_and_sisters(27, first=103).splitlines(keepends=True)[2:]
        right = family("103m:1:2 104f:1:2") + "".join(below)
        self.assertLessEqual(len(left + right), 4000)
        with soon():
            self.told([1, 2], 55, 156, left + right)
            self.told([1, 2], 3, 156, left + right)

    def test_of_all_sorts(self):
        most = 0
        for seed in range(TIMES):
            text = random_family(seed)
            parents = parents_of(text)
            for a in parents:
                for b in parents:
                    expected = by_definition(parents, a, b)
                    most = max(most, expected[0])
                    self.assertEqual(families.common(a, b, encode(text)), expected, (a, b, text))
        self.assertGreaterEqual(most, 3)


if __name__ == "__main__":
    unittest.main()
