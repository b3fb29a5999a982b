"""Promise 1: which words are days, and which days fit one another."""

import calendar
import unittest

from kinfolk import families


def check(text):
    return families.check(list(text.encode("latin-1")))


def of_one(birth, death):
    return check("1 f %s %s A" % (birth, death))


def of_child(birth, father="?-?-?", mother="?-?-?", mothers_death="?-?-?", fathers_death="?-?-?"):
    """The answer for a child in line 3, behind its father and its mother."""
    return check(
        "2 m %s %s B\n3 f %s %s C\n1 f %s ?-?-? A < 2 3\n" % (father, fathers_death, mother, mothers_death, birth)
    )


class WordsOfDays(unittest.TestCase):
    def day(self, *words):
        for word in words:
            with self.subTest(word=word):
                self.assertEqual((of_one(word, "?-?-?"), of_one("?-?-?", word)), ([0], [0]))

    def no_day(self, *words):
        for word in words:
            with self.subTest(word=word):
                self.assertEqual((of_one(word, "?-?-?"), of_one("?-?-?", word)), ([1], [1]))

    def test_what_may_be_untold(self):
        self.day("?-?-?", "1901-?-?", "1901-03-?", "1901-03-04")

    def test_untold_ahead_of_what_is_told(self):
        self.no_day("?-03-04", "?-03-?", "?-?-04", "1901-?-04", "?-02-30", "1901-?-31")

    def test_years(self):
        self.day("1000-01-01", "1000-?-?", "9999-12-31", "9999-?-?", "1582-10-10")
        self.no_day("0999-01-01", "0999-?-?", "0000-?-?", "0001-?-?", "999-?-?", "10000-?-?", "01000-?-?", "1-?-?")
        self.no_day("-?-?", "??-?-?", "????-?-?", "190?-?-?", "19a1-?-?", "+190-?-?", "190:-?-?", "/190-?-?", "y-?-?")

    def test_months(self):
        self.day(*["1901-%02d-?" % month for month in range(1, 13)])
        self.no_day("1901-00-?", "1901-13-?", "1901-99-?", "1901-1-?", "1901-001-?", "1901-012-?", "1901--?")
        self.no_day("1901-??-?", "1901-0?-?", "1901-0a-?", "1901-+1-?", "1901-0:-?", "1901-0/-?", "1901-m-?")

    def test_days(self):
        self.day(*["1901-01-%02d" % day for day in range(1, 32)])
        self.no_day("1901-01-00", "1901-01-32", "1901-01-99", "1901-01-1", "1901-01-001", "1901-01-031", "1901-01-")
        self.no_day("1901-01-??", "1901-01-0?", "1901-01-0a", "1901-01-+1", "1901-01-0:", "1901-01-0/", "1901-01-d")

    def test_parts_missing_or_too_many(self):
        self.no_day("1901", "1901-01", "?", "?-?", "-", "--", "---", "1901-01-01-", "-1901-01-01", "1901-01-01-01")
        self.no_day("?-?-?-?", "?-?-?-", "-?-?-?", "?--?-?", "190101", "19010101", "1901/01/01", "???", "01-01-1901")
        self.no_day("1901-01-01,", "1901-01-01T", "x1901-01-01", "?-?-??", "??-?-?")

    def test_the_last_day_of_each_month(self):
        for year in (1000, 1100, 1200, 1500, 1580, 1581, 1600, 1700, 1900, 1901, 1904, 2000, 2023, 2024, 2100, 9996, 9999):
            for month in range(1, 13):
                last = calendar.monthrange(year, month)[1]
                self.day("%d-%02d-%d" % (year, month, last))
                for day in range(last + 1, 32):
                    self.no_day("%d-%02d-%d" % (year, month, day))

    def test_29_february(self):
        self.day("2000-02-29", "1904-02-29", "1600-02-29", "1200-02-29", "1580-02-29", "1004-02-29")
        self.no_day("1900-02-29", "1901-02-29", "1902-02-29", "1500-02-29", "1000-02-29", "1300-02-29", "2100-02-29")
        self.no_day("2000-02-30", "1904-02-30", "1901-02-31")


class BirthAndDeath(unittest.TestCase):
    def test_may_be(self):
        for birth, death in (
            ("1901-03-04", "1901-03-04"), ("1901-03-04", "1901-03-05"), ("1901-03-31", "1901-04-01"),
            ("1901-12-31", "1902-01-01"), ("1901-?-?", "1901-01-01"), ("1901-12-31", "1901-?-?"),
            ("1901-03-?", "1901-03-01"), ("1901-03-31", "1901-03-?"), ("1901-03-?", "1901-03-?"),
            ("1901-?-?", "1901-?-?"), ("?-?-?", "1000-01-01"), ("9999-12-31", "?-?-?"), ("1901-?-?", "1902-?-?"),
            ("1901-04-?", "1902-03-?"), ("1000-01-01", "9999-12-31"), ("1901-12-?", "1901-?-?"),
        ):
            with self.subTest(birth=birth, death=death):
                self.assertEqual(of_one(birth, death), [0])

    def test_may_not_be(self):
        for birth, death in (
            ("1901-03-04", "1901-03-03"), ("1901-03-01", "1901-02-28"), ("1901-01-01", "1900-12-31"),
            ("1902-?-?", "1901-?-?"), ("1902-?-?", "1901-12-31"), ("1902-01-01", "1901-?-?"), ("1901-03-?", "1901-02-?"),
            ("1901-03-?", "1901-02-28"), ("1901-03-01", "1901-02-?"), ("9999-12-31", "1000-01-01"),
            ("1902-01-?", "1901-02-?"),
        ):
            with self.subTest(birth=birth, death=death):
                self.assertEqual(of_one(birth, death), [1])

    def test_the_line_of_the_one_who_has_them(self):
        wrong = "2 m 1902-?-? 1901-?-? B"
        self.assertEqual(check("1 f ?-?-? ?-?-? A\n\n%s\n%s" % (wrong, wrong.replace("2", "3", 1))), [3])
        self.assertEqual(check("1 f ?-?-? ?-?-? A < 2 -\n\n%s\n" % wrong), [3])


class ParentsAndChildren(unittest.TestCase):
    def test_ten_years_apart(self):
        for parent, child in (
            ("1901-?-?", "1911-?-?"), ("1901-12-31", "1911-01-01"), ("1901-12-?", "1911-01-?"), ("1901-?-?", "1950-?-?"),
            ("?-?-?", "1000-01-01"), ("9999-?-?", "?-?-?"), ("?-?-?", "?-?-?"), ("1000-?-?", "9999-?-?"),
        ):
            with self.subTest(parent=parent, child=child):
                self.assertEqual(of_child(child, father=parent), [0])
                self.assertEqual(of_child(child, mother=parent), [0])

    def test_less_than_ten_years_apart(self):
        for parent, child in (
            ("1901-?-?", "1910-?-?"), ("1901-01-01", "1910-12-31"), ("1901-?-?", "1901-?-?"), ("1901-01-01", "1901-01-02"),
            ("1901-?-?", "1902-?-?"),
        ):
            with self.subTest(parent=parent, child=child):
                self.assertEqual(of_child(child, father=parent), [3])
                self.assertEqual(of_child(child, mother=parent), [3])

    def test_a_parent_born_after_the_child(self):
        for parent, child in (("1911-?-?", "1901-?-?"), ("1950-?-?", "1901-01-01"), ("1901-01-02", "1901-01-01")):
            with self.subTest(parent=parent, child=child):
                self.assertEqual(of_child(child, father=parent), [3])
                self.assertEqual(of_child(child, mother=parent), [3])

    def test_one_parent_right_the_other_wrong(self):
        self.assertEqual(of_child("1950-?-?", father="1920-?-?", mother="1945-?-?"), [3])
        self.assertEqual(of_child("1950-?-?", father="1945-?-?", mother="1920-?-?"), [3])
        self.assertEqual(of_child("1950-?-?", father="1920-?-?", mother="1920-?-?"), [0])

    def test_birth_and_the_mothers_death(self):
        for birth, death in (
            ("1950-03-04", "1950-03-04"), ("1950-03-04", "1950-03-05"), ("1950-03-04", "1950-?-?"),
            ("1950-?-?", "1950-01-01"), ("1950-03-31", "1950-03-?"), ("?-?-?", "1950-01-01"), ("1950-?-?", "?-?-?"),
            ("1950-?-?", "1951-?-?"),
        ):
            with self.subTest(birth=birth, death=death):
                self.assertEqual(of_child(birth, mothers_death=death), [0])
        for birth, death in (
            ("1950-03-04", "1950-03-03"), ("1950-03-?", "1950-02-?"), ("1950-?-?", "1949-?-?"), ("1950-01-01", "1949-12-31"),
        ):
            with self.subTest(birth=birth, death=death):
                self.assertEqual(of_child(birth, mothers_death=death), [3])

    def test_a_father_may_be_dead_before(self):
        self.assertEqual(of_child("1950-03-04", fathers_death="1950-03-03"), [0])
        self.assertEqual(of_child("1950-03-04", father="1900-?-?", fathers_death="1910-?-?"), [0])

    def test_a_child_may_die_when_it_will(self):
        self.assertEqual(check("3 f 1900-?-? 1950-?-? C\n1 f 1920-?-? 1921-?-? A < - 3"), [0])
        self.assertEqual(check("3 f 1900-?-? 1950-?-? C\n1 f ?-?-? 1890-?-? A < - 3"), [0])

    def test_only_one_step_is_looked_at(self):
        # The grandmother is younger than her grandchild, but the one between has no day told.
        text = "1 f 1950-?-? ?-?-? A\n2 f ?-?-? ?-?-? B < - 1\n3 f 1900-?-? ?-?-? C < - 2\n"
        self.assertEqual(check(text), [0])

    def test_it_is_the_childs_line(self):
        parent = "2 m 1945-?-? ?-?-? B\n"
        mother = "3 f ?-?-? 1945-?-? C\n"
        child = "1 f 1950-?-? ?-?-? A < %s\n"
        self.assertEqual(check(parent + child % "2 -"), [2])
        self.assertEqual(check(child % "2 -" + parent), [1])
        self.assertEqual(check(mother + "# a\n" + child % "- 3"), [3])
        self.assertEqual(check("\n" + child % "- 3" + mother), [2])


if __name__ == "__main__":
    unittest.main()
