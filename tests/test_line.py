"""Promise 5: who comes from a, and from whom a comes."""

import unittest

from kinfolk import families
from tests.helpers import (
    LEAST, MOST, NO_FAMILIES, Answers, backwards, brothers_and_sisters, encode, family, parents_of, random_family, soon
)

TIMES = 300
WRONG_DOWNS = (LEAST, LEAST + 1, -256, -3, -2, -1, 2, 3, 4, 10, 11, 256, 257, 65536, 65537, MOST - 1, MOST)


def by_definition(parents, a):
    """From whom a comes, from fathers and mothers."""
    found = set()
    for parent in parents[a]:
        if parent is not None:
            found |= {parent} | by_definition(parents, parent)
    return found


class Answer(Answers, unittest.TestCase):
    call = families.line
    seconds = (0, 1)

    def test_is_how_many_and_the_numbers(self):
        self.assertEqual(self.ask(3, 0, self.text), [2, 1, 2])
        self.assertEqual(self.ask(1, 1, self.text), [1, 3])
        self.assertEqual(self.ask(1, 0, self.text), [0])

    def test_a_down_that_is_not_0_or_1(self):
        for text in (self.text, backwards(self.text), "# 4\n" + self.text):
            for one in (1, 2, 3, 4, 0, LEAST, MOST):
                for down in WRONG_DOWNS:
                    with self.subTest(text=text, one=one, down=down):
                        self.assertEqual(self.ask(one, down, text), [-2])

    def test_a_down_that_is_not_0_or_1_in_a_text_that_is_no_families(self):
        for text in NO_FAMILIES:
            for one in (1, 2, 3, 4, 0, LEAST, MOST):
                for down in WRONG_DOWNS:
                    with self.subTest(text=text, one=one, down=down):
                        self.assertEqual(self.ask(one, down, text), [-1])

    def test_a_down_that_is_a_persons_number(self):
        text = family("5m 6f 7f:5:6")
        for down in (5, 6, 7):
            self.assertEqual(self.ask(7, down, text), [-2])
        self.assertEqual(self.ask(7, 0, text), [2, 5, 6])
        self.assertEqual(self.ask(7, 1, text), [0])

    def test_numbers_at_the_ends_of_what_persons_have(self):
        text = family("1m 9999f 5f:1:9999")
        self.assertEqual(self.ask(9999, 1, text), [1, 5])
        self.assertEqual(self.ask(5, 0, text), [2, 1, 9999])
        for number in (0, 2, 9998, 10000):
            for down in (0, 1):
                self.assertEqual(self.ask(number, down, text), [-2])


class Line(unittest.TestCase):
    def told(self, a, up, down, text):
        """Expects these numbers of those above a and of those below."""
        for lines in (text, backwards(text)):
            with self.subTest(a=a, text=lines):
                self.assertEqual(families.line(a, 0, encode(lines)), [len(up)] + up)
                self.assertEqual(families.line(a, 1, encode(lines)), [len(down)] + down)

    def test_nobody(self):
        self.told(1, [], [], family("1m"))
        self.told(1, [], [], family("1m:-:- 2f 3f:-:2"))

    def test_parents_and_children(self):
        text = family("1m 2f 3f:1:2 4m:1:2 5m:1:- 6f:-:2")
        self.told(1, [], [3, 4, 5], text)
        self.told(2, [], [3, 4, 6], text)
        self.told(3, [1, 2], [], text)
        self.told(4, [1, 2], [], text)
        self.told(5, [1], [], text)
        self.told(6, [2], [], text)

    def test_the_top_the_middle_and_the_bottom(self):
        text = family("1m 2f 3m:1:2 4f 5f:3:4 6m:3:4 7m:-:5 8m:6:- 9f:7:- 10f")
        self.told(1, [], [3, 5, 6, 7, 8, 9], text)
        self.told(2, [], [3, 5, 6, 7, 8, 9], text)
        self.told(4, [], [5, 6, 7, 8, 9], text)
        self.told(3, [1, 2], [5, 6, 7, 8, 9], text)
        self.told(5, [1, 2, 3, 4], [7, 9], text)
        self.told(6, [1, 2, 3, 4], [8], text)
        self.told(7, [1, 2, 3, 4, 5], [9], text)
        self.told(8, [1, 2, 3, 4, 6], [], text)
        self.told(9, [1, 2, 3, 4, 5, 7], [], text)
        self.told(10, [], [], text)

    def test_thirty_steps(self):
        text = family(" ".join("%dm:%d:-" % (number, number + 1) for number in range(1, 31)) + " 31m")
        for number in (1, 2, 17, 30, 31):
            self.told(number, list(range(number + 1, 32)), list(range(1, number)), text)

    def test_each_told_once(self):
        text = family("1m 2f 3m:1:2 4f:1:2 5f:3:4 6m:3:4 7f:6:5")
        self.told(1, [], [3, 4, 5, 6, 7], text)
        self.told(7, [1, 2, 3, 4, 5, 6], [], text)
        self.told(5, [1, 2, 3, 4], [7], text)
        text = family("1m 2f 3f:1:2 4m:1:3 5f:1:3")
        self.told(1, [], [3, 4, 5], text)
        self.told(4, [1, 2, 3], [], text)

    def test_very_many_ways(self):
        text = brothers_and_sisters(31)
        with soon():
            self.told(1, [], list(range(3, 63)), text)
            self.told(62, list(range(1, 61)), [], text)
            self.told(31, list(range(1, 31)), list(range(33, 63)), text)

    def test_as_many_as_a_text_holds(self):
        text = family("1m " + " ".join("%dm:1:-" % number for number in range(2, 155)))
        self.assertLessEqual(len(text), 4000)
        with soon():
            self.told(1, [], list(range(2, 155)), text)
            self.told(154, [1], [], text)

    def test_numbers_in_order(self):
        lines = family("100m 9f 20m:100:9 3f:100:9 1000m:20:- 4f:1000:3 1f:1000:3").splitlines(keepends=True)
        for turn in range(len(lines)):
            text = "".join(lines[turn:] + lines[:turn])
            self.told(100, [], [1, 3, 4, 20, 1000], text)
            self.told(4, [3, 9, 20, 100, 1000], [], text)
            self.told(1000, [9, 20, 100], [1, 4], text)

    def test_of_all_sorts(self):
        for seed in range(TIMES):
            text = random_family(seed)
            parents = parents_of(text)
            above = {number: sorted(by_definition(parents, number)) for number in parents}
            for a in parents:
                self.told(a, above[a], sorted(number for number in parents if a in above[number]), text)


if __name__ == "__main__":
    unittest.main()
