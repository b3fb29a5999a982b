"""The interface as a whole: names, arguments, and that answers are whole numbers and nothing is printed or kept."""

import contextlib
import copy
import inspect
import io
import unittest

import kinfolk.families
from tests.helpers import LEAST, MOST, NO_FAMILIES, encode, family

TEXTS = ("", "# a", family("1m 2f 3f:1:2 4m:1:2 5m:4:3"), *NO_FAMILIES)


def every_call(text):
    """Calls of each function by its full name, each with what it's handed."""
    calls = [(kinfolk.families.check, (text,))]
    for a in (1, 2, 3, 5, 0, -1, LEAST, MOST):
        for b in (0, 1, 2, 4, 5, -1, LEAST, MOST):
            calls.append((kinfolk.families.relation, (a, b, text)))
            calls.append((kinfolk.families.kinship, (a, b, text)))
            calls.append((kinfolk.families.common, (a, b, text)))
            calls.append((kinfolk.families.line, (a, b, text)))
    return calls


class Interface(unittest.TestCase):
    def test_names_and_arguments(self):
        for function, names in (
            (kinfolk.families.check, ["text"]),
            (kinfolk.families.relation, ["a", "b", "text"]),
            (kinfolk.families.kinship, ["a", "b", "text"]),
            (kinfolk.families.common, ["a", "b", "text"]),
            (kinfolk.families.line, ["a", "down", "text"]),
        ):
            self.assertEqual(list(inspect.signature(function).parameters), names)

    def test_arguments_by_their_names(self):
        text = encode(family("1m 2f 3f:1:2"))
        self.assertEqual(kinfolk.families.check(text=text), [0])
        self.assertEqual(kinfolk.families.relation(a=3, b=1, text=text), [0] + encode("father"))
        self.assertEqual(kinfolk.families.kinship(a=3, b=1, text=text), [0, 2 ** 60])
        self.assertEqual(kinfolk.families.common(a=3, b=1, text=text), [1, 1])
        self.assertEqual(kinfolk.families.line(a=3, down=0, text=text), [2, 1, 2])

    def test_each_answer_is_a_list_of_whole_numbers(self):
        for text in TEXTS:
            for function, handed in every_call(encode(text)):
                answer = function(*handed)
                self.assertIs(type(answer), list)
                self.assertEqual({type(number) for number in answer}, {int}, (function, handed))

    def test_a_refusal_is_its_number_alone(self):
        for text in TEXTS:
            for function, handed in every_call(encode(text)):
                answer = function(*handed)
                if answer[0] < 0:
                    self.assertIn(answer, ([-1], [-2]))

    def test_the_others_refuse_what_check_refuses(self):
        for text in TEXTS:
            wrong = kinfolk.families.check(encode(text)) != [0]
            for function, handed in every_call(encode(text))[1:]:
                self.assertEqual(function(*handed) == [-1], wrong, (function, handed))

    def test_what_is_handed_in_stays_as_it_was(self):
        for text in TEXTS:
            for function, handed in every_call(encode(text)):
                before = copy.deepcopy(handed)
                function(*handed)
                self.assertEqual(handed, before)

    def test_nothing_is_kept(self):
        calls = [call for text in TEXTS for call in every_call(encode(text))]
        first = [function(*handed) for function, handed in calls]
        self.assertEqual([function(*handed) for function, handed in reversed(calls)], first[::-1])

    def test_nothing_is_printed(self):
        out, err = io.StringIO(), io.StringIO()
        with contextlib.redirect_stdout(out), contextlib.redirect_stderr(err):
            for text in TEXTS:
                for function, handed in every_call(encode(text)):
                    function(*handed)
        self.assertEqual((out.getvalue(), err.getvalue()), ("", ""))

    def test_every_byte_may_be_handed_in(self):
        for byte in range(256):
            for text in ([byte], [byte] * 4000, encode("1 f ?-?-? ?-?-? A") + [byte], [byte] + encode("1 f")):
                for function, handed in every_call(text)[:5]:
                    self.assertEqual({type(number) for number in function(*handed)}, {int})


if __name__ == "__main__":
    unittest.main()
