"""Promise 2: in whom two meet, and which of several ways is the nearest, against a count of all ways."""

import unittest

from kinfolk import families
from kinfolk.persons import read_persons
from kinfolk.relations import meetings
from tests.helpers import backwards, brothers_and_sisters, encode, family, parents_of, random_family, soon

TIMES = 300


def ways_up(parents, number):
    """Every way from the person upwards, as a tuple of persons from the person itself on."""
    ways = [(number,)]
    for parent in parents[number]:
        if parent is not None:
            ways.extend((number,) + way for way in ways_up(parents, parent))
    return ways


def all_meetings(parents, a, b):
    """Every (i, j) with two ways of so many steps whose ends are the same and whose last ones before differ."""
    found = set()
    for one in ways_up(parents, a):
        for other in ways_up(parents, b):
            if one[-1] == other[-1] and (len(one) == 1 or len(other) == 1 or one[-2] != other[-2]):
                found.add((len(one) - 1, len(other) - 1))
    return found


def plain_words(steps, a, b, parents, female):
    """The document's words for the nearest (i, j), in its order."""
    if steps is None:
        return "none"
    i, j = steps
    if min(i, j) == 0:
        if i == j:
            return "self"
        word = (("son", "daughter") if i == 0 else ("father", "mother"))[female]
        return ["", "grand"][i + j > 1] + word if i + j < 3 else "great-" * (i + j - 2) + "grand" + word
    if i == j == 1:
        full = parents[a] == parents[b] and None not in parents[a]
        return ("" if full else "half-") + ("brother", "sister")[female]
    if min(i, j) == 1:
        word = (("uncle", "aunt") if j == 1 else ("nephew", "niece"))[female]
        return "great-" * (max(i, j) - 2) + word
    m = min(i, j) - 1
    words = "%d%s cousin" % (m, {1: "st", 2: "nd", 3: "rd"}.get(m, "th"))
    return words + (", %d removed" % abs(i - j) if i != j else "")


class Meetings(unittest.TestCase):
    def met(self, expected, a, b, text):
        for lines in (text, backwards(text)):
            with self.subTest(a=a, b=b, text=lines):
                persons = read_persons(encode(lines))
                self.assertEqual(sorted(meetings(persons, a, b)), expected)
                self.assertEqual(sorted(meetings(persons, b, a)), sorted((j, i) for i, j in expected))

    def test_nobody(self):
        self.met([], 1, 2, family("1m 2f 3f:1:2"))

    def test_oneself(self):
        self.met([(0, 0)], 1, 1, family("1m"))
        # From 5 two ways of two steps lead to 1, by 3 and by 4.
        self.met([(0, 0), (2, 2)], 5, 5, family("1m 2f 3m:1:2 4f:1:2 5f:3:4"))
        # One way of one step and one of two steps, by 5 itself and by 3.
        self.met([(0, 0), (1, 2), (2, 1)], 5, 5, family("1m 3f:1:- 5f:1:3"))

    def test_by_one_and_the_same_child_alone(self):
        # 5 and 6 are brother and sister by 3; in 1 and 2 they don't meet, nor do 3 and 5.
        text = family("1m 2f 3m:1:2 4f 5f:3:4 6m:3:4")
        self.met([(1, 1)], 5, 6, text)
        self.met([(0, 1)], 3, 5, text)
        self.met([(0, 2)], 1, 5, text)

    def test_by_one_and_the_same_child_alone_over_several_steps(self):
        text = family("1m 2f 3m:1:2 4f 5f:3:4 6m:3:4 7m:-:5 8m:6:-")
        self.met([(2, 2)], 7, 8, text)
        self.met([(1, 2)], 5, 8, text)
        self.met([(0, 2)], 3, 8, text)

    def test_by_different_children(self):
        self.met([(2, 2)], 5, 6, family("1m 2f 3m:1:2 4f:1:2 5f:3:- 6m:-:4"))

    def test_by_different_children_and_by_the_same_one(self):
        # From 5 both 3 and 4 lead to 1, from 6 only 3: by 4 and 3 they meet in 1 too.
        text = family("1m 2f 3m:1:2 4f:1:2 5f:3:4 6m:3:-")
        self.met([(1, 1), (2, 2)], 5, 6, text)
        # From both 3 and 4 lead there.
        text = family("1m 2f 3m:1:2 4f:1:2 5f:3:4 6m:3:4")
        self.met([(1, 1), (2, 2)], 5, 6, text)

    def test_the_same_child_in_another_number_of_steps(self):
        # To 1 lead two steps and three steps from 6, one from 3: always by 3 last.
        text = family("1m 3m:1:- 4f:3:- 6f:3:4")
        self.met([(1, 0), (2, 0)], 6, 3, text)
        self.met([(2, 0), (3, 0)], 6, 1, text)

    def test_the_steps_are_those_of_the_ways_that_differ(self):
        # From 7 to 1: two steps by 3, three steps by 4; from 8: two steps by 3. So (3, 2), but not (2, 2).
        text = family("1m 3m:1:- 4f:1:- 5f:-:4 7f:3:5 8f:3:-")
        self.met([(1, 1), (3, 2)], 7, 8, text)

    def test_of_all_sorts(self):
        for seed in range(TIMES):
            text = random_family(seed)
            persons, parents = read_persons(encode(text)), parents_of(text)
            for a in parents:
                for b in parents:
                    self.assertEqual(sorted(meetings(persons, a, b)), sorted(all_meetings(parents, a, b)), (a, b, text))


class Words(unittest.TestCase):
    def test_of_all_sorts(self):
        told = set()
        for seed in range(TIMES):
            text = random_family(seed)
            parents = parents_of(text)
            sexes = {int(line.split()[0]): line.split()[1] for line in text.splitlines()}
            for a in parents:
                for b in parents:
                    found = all_meetings(parents, a, b)
                    steps = min(found, key=lambda ij: (sum(ij), abs(ij[0] - ij[1]), ij[0]), default=None)
                    expected = plain_words(steps, a, b, parents, sexes[b] == "f")
                    told.add(expected)
                    self.assertEqual(families.relation(a, b, encode(text)), [0] + encode(expected), (a, b, text))
        # What is compared has to hold the rarer words too.
        for word in ("none", "great-great-grandfather", "great-aunt", "1st cousin, 1 removed", "2nd cousin"):
            self.assertIn(word, told)

    def test_where_very_many_ways_lead_to_the_same_persons(self):
        text = encode(brothers_and_sisters(31))
        with soon():
            self.assertEqual(families.relation(61, 62, text), [0] + encode("sister"))
            self.assertEqual(families.relation(61, 1, text), [0] + encode("great-" * 28 + "grandfather"))
            self.assertEqual(families.relation(2, 62, text), [0] + encode("great-" * 28 + "granddaughter"))
            self.assertEqual(families.relation(62, 51, text), [0] + encode("great-" * 3 + "grandfather"))
            self.assertEqual(families.relation(51, 62, text), [0] + encode("great-" * 3 + "granddaughter"))


if __name__ == "__main__":
    unittest.main()
