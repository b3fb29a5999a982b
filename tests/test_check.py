"""Promise 1: which texts are families, as far as each line by itself and the answer's form go."""

import unittest

from kinfolk import families

EXAMPLE = (
    "12 f 1901-03-04 1970-?-? Anna Berg\n"
    "13 m ?-?-? ?-?-? Karl Berg\n"
    "20 f 1930-05-? ?-?-? Eva Berg < 13 12     # father, mother\n"
)


def check(text):
    return families.check(list(text.encode("latin-1")))


class Case(unittest.TestCase):
    def families(self, *texts):
        for text in texts:
            with self.subTest(text=text):
                self.assertEqual(check(text), [0])

    def error(self, line, *texts):
        for text in texts:
            with self.subTest(text=text):
                self.assertEqual(check(text), [line])


class TheAnswer(Case):
    def test_is_a_list_of_one_whole_number(self):
        for text in ("", EXAMPLE, "x", "\nx\n"):
            answer = check(text)
            self.assertIs(type(answer), list)
            self.assertEqual([type(number) for number in answer], [int])

    def test_leaves_the_text_as_it_was(self):
        for text in (EXAMPLE, EXAMPLE + "x", "7 m ?-?-? ?-?-? A < 7 -", " \t#\n"):
            handed = list(text.encode("latin-1"))
            families.check(handed)
            self.assertEqual(handed, list(text.encode("latin-1")))

    def test_is_the_same_whatever_was_asked_before(self):
        texts = (EXAMPLE, EXAMPLE + "x", "", EXAMPLE + EXAMPLE, "7 m ?-?-? ?-?-? A < 7 -")
        first = [check(text) for text in texts]
        self.assertEqual(first, [[0], [4], [0], [4], [1]])
        self.assertEqual([check(text) for text in texts], first)
        self.assertEqual([check(text) for text in reversed(texts)], first[::-1])

    def test_is_a_list_of_its_own_each_time(self):
        for text in (EXAMPLE, "x"):
            answer = check(text)
            kept = list(answer)
            answer.append(9)
            self.assertEqual(check(text), kept)


class Lines(Case):
    def test_the_documents_example(self):
        self.families(EXAMPLE, EXAMPLE[:-1])

    def test_nothing_said(self):
        self.families("", "\n", "\n\n\n", " ", "\t", " \t \n\t", "#", "# a b\n", " # a\n\n\t#", "##", "#\n#")

    def test_the_last_line_with_and_without_its_line_feed(self):
        self.families("1 f ?-?-? ?-?-? A", "1 f ?-?-? ?-?-? A\n", "1 f ?-?-? ?-?-? A\n\n")
        self.error(1, "1 f ?-?-? ?-?-?", "1 f ?-?-? ?-?-?\n")
        self.error(2, "\n1 f ?-?-? ?-?-?", "\n1 f ?-?-? ?-?-?\n")

    def test_lines_are_numbered_from_1_with_those_that_say_nothing(self):
        self.error(1, "x", "x\n\n")
        self.error(5, "\n# a\n1 f ?-?-? ?-?-? A\n \t\nx\n\n")
        self.error(4000, "\n" * 3999 + "x")
        self.families("\n" * 4000)

    def test_a_carriage_return_ends_no_line(self):
        self.error(1, "\r", "\r\n", "1 f ?-?-? ?-?-? A < - -\r")
        self.families("# a\rx", "1 f ?-?-? ?-?-? A\r\n2 m ?-?-? ?-?-? B\r\n")

    def test_255_bytes_and_not_256(self):
        person = "1 f ?-?-? ?-?-? A"
        for filler in (" ", "\t", "#", "A", "# a", " b"):
            longest = (person + filler * 255)[:255]
            self.families(longest, longest + "\n", "\n" + longest + "\n\n", longest + "\n" + "#" * 255)
            self.error(1, longest + filler[-1], longest + filler[-1] + "\n")
            self.error(3, "\n\n" + longest + filler[-1] + "\n")

    def test_256_bytes_that_say_nothing(self):
        for filler in (" ", "\t", "#"):
            self.families(filler * 255, filler * 255 + "\n")
            self.error(1, filler * 256, filler * 256 + "\n")
            self.error(2, "\n" + filler * 256)

    def test_a_line_of_all_4000_bytes(self):
        self.error(1, "#" * 4000, " " * 4000, "1" * 4000)


class Words(Case):
    def test_blanks_before_between_and_behind(self):
        self.families(
            " 1 f ?-?-? ?-?-? A",
            "\t1\tf\t?-?-?\t?-?-?\tA\t",
            " \t 1 \t f  ?-?-?\t\t?-?-?   A  B \t\n",
            "2 m ?-?-? ?-?-? B\n1 f ?-?-? ?-?-? A \t<\t2 \t - \t",
        )

    def test_no_other_byte_is_a_blank(self):
        for other in "\x00\x0b\x0c\r\x1f\x7f\x85\xa0\xff":
            self.error(1, other, "1" + other + "f ?-?-? ?-?-? A", "1 f" + other + " ?-?-? ?-?-? A")
            self.error(1, other + "1 f ?-?-? ?-?-? A", "1 f ?-?-? ?-?-?" + other + "A")

    def test_names_of_every_byte_but_those_that_mean_something(self):
        for byte in range(256):
            if byte not in (9, 10, 32, 35, 60):
                self.families("1 f ?-?-? ?-?-? " + chr(byte), "1 f ?-?-? ?-?-? A" + chr(byte) + "B")

    def test_a_remark_within_and_behind_a_word(self):
        self.families(
            "1 f ?-?-? ?-?-? A# b",
            "1 f ?-?-? ?-?-? A#<",
            "1 f ?-?-? ?-?-? A #< 7",
            "2 m ?-?-? ?-?-? B\n1 f ?-?-? ?-?-? A < 2 -#3",
        )
        self.error(1, "1 f ?-?-? ?-?-? #A", "1 f ?-?-? ?-?-?# A", "1# f ?-?-? ?-?-? A", "1 f ?-?-? ?-#?-? A")
        self.error(1, "1 f ?-?-? ?-?-? A < - #-", "1 f ?-?-? ?-?-? A <# - -")

    def test_a_remark_ends_with_its_line(self):
        self.error(2, "# a\nx", "1 f ?-?-? ?-?-? A # a\n1 m ?-?-? ?-?-? B")


class Persons(Case):
    def test_each_part_missing(self):
        words = "1 f ?-?-? ?-?-? A".split()
        for gone in range(5):
            self.error(1, " ".join(words[:gone] + words[gone + 1:]))
        for left in range(1, 5):
            self.error(1, " ".join(words[:left]))

    def test_each_part_twice(self):
        words = "1 f ?-?-? ?-?-? A < - -".split()
        for twice in (0, 1, 5, 6):
            self.error(1, " ".join(words[:twice] + [words[twice]] + words[twice:]))

    def test_a_third_day_is_a_name(self):
        self.families("1 f ?-?-? ?-?-? ?-?-?", "1 f ?-?-? ?-?-? ?-?-? A", "1 f ?-?-? ?-?-? 1", "1 f ?-?-? ?-?-? -")

    def test_parts_in_another_order(self):
        self.error(1, "f 1 ?-?-? ?-?-? A", "1 ?-?-? f ?-?-? A", "1 f ?-?-? A ?-?-?", "A 1 f ?-?-? ?-?-?")

    def test_numbers(self):
        for number in ("1", "9", "10", "99", "100", "999", "1000", "9999"):
            self.families(number + " f ?-?-? ?-?-? A")
        for number in (
            "0", "00", "01", "0001", "09999", "10000", "99999", "1000000000000", "9" * 200, "0" * 200 + "1",
            "-1", "+1", "1.", "1a", "a1", "-", "?", "1_0", "0x1", "1:", "1/", "/", ":", "\xb2", "1\xb9",
        ):
            self.error(1, number + " f ?-?-? ?-?-? A")

    def test_f_or_m(self):
        self.families("1 f ?-?-? ?-?-? A", "1 m ?-?-? ?-?-? A")
        for word in ("F", "M", "ff", "mm", "fm", "mf", "x", "?", "-", "e", "g", "l", "n", "1", "f,"):
            self.error(1, "1 " + word + " ?-?-? ?-?-? A")

    def test_names(self):
        self.families("1 f ?-?-? ?-?-? A", "1 f ?-?-? ?-?-? A B", "1 f ?-?-? ?-?-? A > B", "1 f ?-?-? ?-?-? A" + " B" * 100)

    def test_names_with_the_sign_of_parents(self):
        for name in ("<", "<A", "A<", "A<B", "<<", "A <B", "A B<", "A< B", "A << B", "A < B", "A < B C D", "< A"):
            self.error(1, "1 f ?-?-? ?-?-? " + name, "1 f ?-?-? ?-?-? " + name + " < - -")

    def test_the_sign_of_parents_without_two_words_behind_it(self):
        for behind in ("<", "< -", "< - - -", "< - - - -", "< 1", "< < -", "< - <", "< < <", "< - - < - -", "< - < - -"):
            self.error(1, "1 f ?-?-? ?-?-? A " + behind)
        self.error(1, "1 f ?-?-? ?-?-? A <- -", "1 f ?-?-? ?-?-? A <- - -", "1 f ?-?-? ?-?-? A << - -")

    def test_parents_without_a_name(self):
        self.error(1, "1 f ?-?-? ?-?-? < - -", "1 f ?-?-? < - -", "1 f < - -", "1 < - -", "< - -")

    def test_parents(self):
        two = "2 m ?-?-? ?-?-? B\n3 f ?-?-? ?-?-? C\n1 f ?-?-? ?-?-? A < "
        self.families(two + "- -", two + "2 -", two + "- 3", two + "2 3", two + "2 3\n")
        for word in ("0", "02", "002", "10000", "x", "?", "--", "-2", "2-", "+2", "2,", "m", "A", "2.", "9" * 99):
            # Further up stands one whose parent is nowhere: a line that can't be read goes before it.
            self.error(4, "9 m ?-?-? ?-?-? D < 77 -\n" + two + word + " -")
            self.error(4, "9 m ?-?-? ?-?-? D < 77 -\n" + two + "- " + word.replace("2", "3"))

    def test_parents_edges(self):
        self.families("9999 m ?-?-? ?-?-? B\n1 f ?-?-? ?-?-? C\n2 f ?-?-? ?-?-? A < 9999 1")


class NumbersThatWereBefore(Case):
    def test_the_later_line_is_the_error(self):
        self.error(2, "1 f ?-?-? ?-?-? A\n1 f ?-?-? ?-?-? A", "1 f ?-?-? ?-?-? A\n1 m 1900-?-? ?-?-? B")
        self.error(5, "1 f ?-?-? ?-?-? A\n\n2 f ?-?-? ?-?-? B\n# a\n1 f ?-?-? ?-?-? C\n2 f ?-?-? ?-?-? D")

    def test_others_that_begin_alike(self):
        self.families("1 f ?-?-? ?-?-? A\n11 f ?-?-? ?-?-? A\n111 f ?-?-? ?-?-? A\n10 f ?-?-? ?-?-? A")


class HowManyPersons(Case):
    # So many persons don't go into 4000 bytes; the document has a bound for them all the same.
    def test_1024_and_not_1025(self):
        lines = ["%d f ?-?-? ?-?-? A\n" % number for number in range(1, 1026)]
        self.assertEqual(check("".join(lines[:1024])), [0])
        self.assertEqual(check("# a\n" + "".join(lines[:1024]) + "\n \n"), [0])
        self.assertEqual(check("".join(lines)), [1025])
        self.assertEqual(check("# a\n" + "".join(lines[:1024]) + "\n" + lines[1024] + "x"), [1027])

    def test_as_many_as_4000_bytes_hold(self):
        text = "".join("%d f ?-?-? ?-?-? A\n" % number for number in range(1, 206))
        self.assertEqual(len(text), 3992)
        self.families(text)


if __name__ == "__main__":
    unittest.main()
