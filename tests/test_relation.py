"""Promise 2: the words for what b is to a."""

import unittest

from kinfolk import families
from tests.helpers import AnswersOfTwo, backwards, encode, family


def words(a, b, text):
    """The words of the answer, which must be no refusal."""
    answer = families.relation(a, b, encode(text))
    assert answer[0] == 0 and len(answer) > 1, answer
    return bytes(answer[1:]).decode("ascii")


def one_line(sexes):
    """Person 1 at the bottom, each next one the parent of the one before; sexes from the bottom up."""
    lines = []
    for number, sex in enumerate(sexes, start=1):
        above = sexes[number] if number < len(sexes) else ""
        parents = {"m": ":%d:-", "f": ":-:%d", "": ":-:-"}[above]
        lines.append(str(number) + sex + (parents % (number + 1) if above else parents))
    return family(" ".join(lines))


def two_lines(left, right, left_sex="m", right_sex="f"):
    """100 and 200 have the lines of children 101, 102 .. and 201, 202 ..; 101 and 201 are the first two's children.

    So 100 + i and 200 + j meet by (i, j) in 1 and in 2.
    """
    lines = ["1m 2f"]
    for start, steps, sex in ((100, left, left_sex), (200, right, right_sex)):
        parents = ":1:2"
        for number in range(start + 1, start + steps + 1):
            lines.append("%d%s%s" % (number, sex, parents))
            parents = ":%d:-" % number if sex == "m" else ":-:%d" % number
    return family(" ".join(lines))


class Case(unittest.TestCase):
    def told(self, expected, a, b, text):
        for lines in (text, backwards(text)):
            with self.subTest(a=a, b=b, text=lines):
                self.assertEqual(words(a, b, lines), expected)


class Answer(AnswersOfTwo, unittest.TestCase):
    call = families.relation

    def test_is_0_and_the_words_bytes(self):
        self.assertEqual(self.ask(1, 1, self.text), [0, 115, 101, 108, 102])
        self.assertEqual(self.ask(3, 1, self.text), [0, 102, 97, 116, 104, 101, 114])
        self.assertEqual(self.ask(1, 2, self.text), [0, 110, 111, 110, 101])
        text = two_lines(2, 3)
        self.assertEqual(self.ask(102, 203, text), [0] + encode("1st cousin, 1 removed"))

    def test_the_documents_example(self):
        text = (
            "12 f 1901-03-04 1970-?-? Anna Berg\n"
            "13 m ?-?-? ?-?-? Karl Berg\n"
            "20 f 1930-05-? ?-?-? Eva Berg < 13 12     # father, mother\n"
        )
        self.assertEqual([words(20, b, text) for b in (12, 13, 20)], ["mother", "father", "self"])
        self.assertEqual([words(a, 20, text) for a in (12, 13)], ["daughter", "daughter"])
        self.assertEqual(words(12, 13, text), "none")


class SelfAndNone(Case):
    def test_self(self):
        text = family("1m 2f 3f:1:2 4m:1:2 5f:4:3")
        for number in range(1, 6):
            self.told("self", number, number, text)

    def test_none(self):
        self.told("none", 1, 2, family("1m 2f"))
        self.told("none", 2, 1, family("1m 2f 3f:1:2"))
        self.told("none", 3, 6, family("1m 2f 3f:1:2 4m 5f 6m:4:5"))
        self.told("none", 3, 4, family("1m 2f 3f:1:- 4m:-:2"))

    def test_who_have_children_in_common_only(self):
        text = family("1m 2f 3m:1:2 4m 5f 6f:4:5 7m:3:6 8f:3:6")
        self.told("none", 3, 6, text)
        self.told("none", 1, 4, text)
        self.told("none", 2, 3, family("1m 2f 3m 4f:3:2 5f:1:2"))

    def test_who_have_the_not_known_in_common(self):
        self.told("none", 1, 2, family("1m:-:- 2f:-:-"))
        self.told("none", 3, 4, family("1m 2m 3m:1:- 4f:2:-"))


class InLine(Case):
    def test_a_parent(self):
        text = family("1m 2f 3f:1:2 4m:1:2")
        for child in (3, 4):
            self.told("father", child, 1, text)
            self.told("mother", child, 2, text)

    def test_a_child(self):
        text = family("1m 2f 3f:1:2 4m:1:2")
        for parent in (1, 2):
            self.told("daughter", parent, 3, text)
            self.told("son", parent, 4, text)

    def test_one_parent_known(self):
        text = family("1m 2f 3f:1:- 4m:-:2")
        self.told("father", 3, 1, text)
        self.told("daughter", 1, 3, text)
        self.told("mother", 4, 2, text)
        self.told("son", 2, 4, text)

    def test_up_two_steps_and_more(self):
        for sex, parent in (("m", "father"), ("f", "mother")):
            text = one_line(sex * 7)
            self.told(parent, 1, 2, text)
            self.told("grand" + parent, 1, 3, text)
            self.told("great-grand" + parent, 1, 4, text)
            self.told("great-great-grand" + parent, 1, 5, text)
            self.told("great-great-great-grand" + parent, 1, 6, text)
            self.told("great-great-great-great-grand" + parent, 1, 7, text)
            self.told("great-grand" + parent, 3, 6, text)

    def test_down_two_steps_and_more(self):
        for sex, child in (("m", "son"), ("f", "daughter")):
            text = one_line(sex * 7)
            self.told(child, 7, 6, text)
            self.told("grand" + child, 7, 5, text)
            self.told("great-grand" + child, 7, 4, text)
            self.told("great-great-grand" + child, 7, 3, text)
            self.told("great-great-great-grand" + child, 7, 2, text)
            self.told("great-great-great-great-grand" + child, 7, 1, text)
            self.told("great-grand" + child, 6, 3, text)

    def test_the_word_goes_by_b_alone(self):
        text = one_line("fmfmf")
        self.told("father", 1, 2, text)
        self.told("daughter", 2, 1, text)
        self.told("grandmother", 1, 3, text)
        self.told("great-grandfather", 1, 4, text)
        self.told("great-great-grandmother", 1, 5, text)
        self.told("great-grandson", 5, 2, text)
        self.told("great-great-granddaughter", 5, 1, text)
        self.told("grandson", 4, 2, text)

    def test_thirty_steps(self):
        text = one_line("m" * 31)
        self.told("great-" * 28 + "grandfather", 1, 31, text)
        self.told("great-" * 28 + "grandson", 31, 1, text)
        self.told("great-" * 27 + "grandfather", 1, 30, text)


class BrothersAndSisters(Case):
    def test_both_parents_the_same(self):
        text = family("1m 2f 3f:1:2 4m:1:2 5f:1:2")
        self.told("brother", 3, 4, text)
        self.told("sister", 4, 3, text)
        self.told("sister", 3, 5, text)

    def test_one_parent_the_same(self):
        text = family("1m 2f 3m 4f 5f:1:2 6m:1:4 7f:3:2")
        self.told("half-brother", 5, 6, text)
        self.told("half-sister", 6, 5, text)
        self.told("half-sister", 5, 7, text)
        self.told("half-sister", 7, 5, text)
        self.told("none", 6, 7, text)

    def test_a_parent_not_known(self):
        text = family("1m 2f 3f:1:2 4m:1:- 5f:-:2 6m:1:- 7f:-:2")
        self.told("half-brother", 3, 4, text)
        self.told("half-sister", 4, 3, text)
        self.told("half-sister", 3, 5, text)
        self.told("half-sister", 5, 3, text)
        # The other parent isn't known of either: that isn't known and the same.
        self.told("half-brother", 4, 6, text)
        self.told("half-sister", 5, 7, text)
        self.told("none", 4, 5, text)

    def test_whose_other_parents_are_brother_and_sister(self):
        # 5 and 6 have the father 1; their mothers 3 and 4 are sisters.
        text = family("1m 10m 11f 3f:10:11 4f:10:11 5f:1:3 6m:1:4")
        self.told("half-brother", 5, 6, text)

    def test_whose_parents_are_brother_and_sister(self):
        self.told("sister", 6, 5, family("1m 2f 3m:1:2 4f:1:2 5f:3:4 6m:3:4"))


class AuntsAndNieces(Case):
    def test_aunt_and_uncle(self):
        for sex, word in (("f", "aunt"), ("m", "uncle")):
            text = two_lines(7, 1, right_sex=sex)
            for i, expected in ((2, ""), (3, "great-"), (4, "great-great-"), (5, "great-" * 3), (7, "great-" * 5)):
                self.told(expected + word, 100 + i, 201, text)

    def test_niece_and_nephew(self):
        for sex, word in (("f", "niece"), ("m", "nephew")):
            text = two_lines(1, 7, right_sex=sex)
            for j, expected in ((2, ""), (3, "great-"), (4, "great-great-"), (5, "great-" * 3), (7, "great-" * 5)):
                self.told(expected + word, 101, 200 + j, text)

    def test_a_and_b_changed_round(self):
        text = two_lines(4, 1, "m", "f")
        self.told("aunt", 102, 201, text)
        self.told("nephew", 201, 102, text)
        self.told("great-aunt", 103, 201, text)
        self.told("great-nephew", 201, 103, text)

    def test_by_half_brothers_and_sisters(self):
        text = family("1m 2f 3f 4m:1:2 5f:1:3 6f:-:5")
        self.told("uncle", 6, 4, text)
        self.told("niece", 4, 6, text)

    def test_who_married_an_aunt_is_nobody(self):
        text = family("1m 2f 3f:1:2 4f:1:2 5m 6m 7f:5:3 8m:6:4")
        self.told("none", 7, 6, text)
        self.told("none", 6, 7, text)

    def test_thirty_steps(self):
        self.told("great-" * 28 + "aunt", 130, 201, two_lines(30, 1))
        self.told("great-" * 28 + "niece", 101, 230, two_lines(1, 30))


class Cousins(Case):
    def test_of_the_same_generation(self):
        text = two_lines(30, 30)
        ordinals = (
            "1st 2nd 3rd 4th 5th 6th 7th 8th 9th 10th 11th 12th 13th 14th 15th 16th 17th 18th 19th 20th "
            "21st 22nd 23rd 24th 25th 26th 27th 28th 29th"
        ).split()
        self.assertEqual(len(ordinals), 29)
        for m, ordinal in enumerate(ordinals, start=1):
            self.told(ordinal + " cousin", 101 + m, 201 + m, text)
            self.told(ordinal + " cousin", 201 + m, 101 + m, text)

    def test_removed(self):
        text = two_lines(30, 30)
        for i, j, expected in (
            (2, 3, "1st cousin, 1 removed"), (2, 4, "1st cousin, 2 removed"), (2, 30, "1st cousin, 28 removed"),
            (3, 4, "2nd cousin, 1 removed"), (3, 5, "2nd cousin, 2 removed"), (4, 7, "3rd cousin, 3 removed"),
            (5, 15, "4th cousin, 10 removed"), (12, 13, "11th cousin, 1 removed"), (13, 24, "12th cousin, 11 removed"),
            (14, 26, "13th cousin, 12 removed"), (22, 23, "21st cousin, 1 removed"), (23, 30, "22nd cousin, 7 removed"),
            (24, 27, "23rd cousin, 3 removed"), (29, 30, "28th cousin, 1 removed"), (11, 30, "10th cousin, 19 removed"),
        ):
            self.told(expected, 100 + i, 200 + j, text)
            self.told(expected, 100 + j, 200 + i, text)
            self.told(expected, 200 + j, 100 + i, text)
            self.told(expected, 200 + i, 100 + j, text)

    def test_the_word_is_the_same_for_f_and_m(self):
        for left in "fm":
            for right in "fm":
                self.told("1st cousin", 102, 202, two_lines(2, 2, left, right))

    def test_by_one_parent_alone(self):
        self.told("1st cousin", 6, 7, family("1m 2f 3f 4m:1:2 5f:1:3 6f:4:- 7m:-:5"))

    def test_by_both_sides(self):
        self.told("1st cousin", 9, 10, family("1m 2f 3m:1:2 4m:1:2 5m 6f 7f:5:6 8f:5:6 9f:3:7 10m:4:8"))


class Nearest(Case):
    """Persons who are related in several ways."""

    def test_the_least_sum_of_steps(self):
        # 7 is 8's father, and the son of 3, a sister of 8's grandmother 4.
        self.told("father", 8, 7, family("1m 2f 3f:1:2 4f:1:2 6f:-:4 7m:-:3 8f:7:6"))
        # 5 is 7's uncle by the brothers 4 and 5, and her mother's cousin.
        self.told("uncle", 7, 5, family("1m 2f 10m:1:2 11f:1:2 4m:10:- 5m:10:- 6f:-:11 7f:4:6"))
        # 6 is 7's 1st cousin by 1 and 2, and by 20 a 2nd cousin.
        text = family("1m 2f 20m 30m:20:- 31m:20:- 32f:30:- 33f:31:- 3m:1:2 4m:1:2 6f:3:32 7f:4:33")
        self.told("1st cousin", 6, 7, text)
        # 5 is 4's grandson by 3, and her great-grandson by 6.
        self.told("grandson", 4, 5, family("1m 4f 3m:1:4 2f:1:4 6f:-:2 5m:3:6"))

    def test_a_parent_who_is_a_sister_too(self):
        # 3 is the child of 1 and 2, 4 that of 1 and 3.
        text = family("1m 2f 3f:1:2 4m:1:3")
        self.told("mother", 4, 3, text)
        self.told("son", 3, 4, text)
        self.told("son", 1, 4, text)
        self.told("daughter", 1, 3, text)
        self.told("grandson", 2, 4, text)

    def test_sister_ahead_of_grandparent_and_grandchild(self):
        # 1 is the father of 3 and 5; 5's mother 4 is 3's daughter.
        text = family("1m 3f:1:- 4f:-:3 5m:1:4")
        self.told("half-brother", 3, 5, text)
        self.told("half-sister", 5, 3, text)

    def test_niece_ahead_of_three_steps_in_line(self):
        # 7's mother 6 is 3's granddaughter; 7's father 8 is 3's brother.
        text = family("1m 3f:1:- 8m:1:- 5f:-:3 6f:-:5 7m:8:6")
        self.told("nephew", 3, 7, text)
        self.told("aunt", 7, 3, text)

    def test_first_cousins_ahead_of_great_aunts_and_of_lines(self):
        # 9 is 8's cousin by the brothers 3 and 4; her mother 6 is the daughter of 8's half-sister 5.
        text = family("1m 2f 3m:1:2 4m:1:2 20f 8f:3:20 5f:-:20 6f:-:5 9f:4:6")
        self.told("1st cousin", 8, 9, text)
        self.told("1st cousin", 9, 8, text)
        # 9 is 8's cousin by 3 and 4, and her great-great-grandchild by 5, 6 and 7.
        text = family("1m 2f 3m:1:2 4m:1:2 8f:3:- 5f:-:8 6f:-:5 7f:-:6 9f:4:7")
        self.told("1st cousin", 8, 9, text)
        self.told("1st cousin", 9, 8, text)

    def test_of_niece_and_aunt_the_niece(self):
        # By 1 6's father 3 is 5's brother; by 2 5's mother 4 is 6's sister.
        text = family("1m 2f 3m:1:- 4f:-:2 5f:1:4 6f:3:2")
        self.told("niece", 5, 6, text)
        self.told("niece", 6, 5, text)

    def test_of_great_niece_and_great_aunt_the_great_niece(self):
        text = family("1m 2f 3m:1:- 7m:3:- 4f:-:2 8f:-:4 5f:1:8 6f:7:2")
        self.told("great-niece", 5, 6, text)
        self.told("great-niece", 6, 5, text)

    def test_cousins_both_ways_removed(self):
        # 9 and 10 meet by (2, 3) in 1 and by (3, 2) in 2: the words are the same.
        text = family("1m 2f 3m:1:- 4m:1:- 5m:4:- 6f:-:2 7f:-:2 8f:-:6 9f:3:8 10f:5:7")
        self.told("1st cousin, 1 removed", 9, 10, text)
        self.told("1st cousin, 1 removed", 10, 9, text)

    def test_sums_go_before_how_far_apart(self):
        # 9 is 1's great-granddaughter, and her cousin by the brothers 21 and 22.
        text = family("20m 21m:20:- 22m:20:- 1f:21:- 3f:-:1 4f:-:3 9f:22:4")
        self.told("great-granddaughter", 1, 9, text)
        self.told("great-grandmother", 9, 1, text)


if __name__ == "__main__":
    unittest.main()
