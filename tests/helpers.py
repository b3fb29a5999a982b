"""What the tests of several calls have in common: short ways to write texts, and the tests of refusals."""

import contextlib
import random
import signal

LEAST, MOST = -2147483648, 2147483647


@contextlib.contextmanager
def soon(seconds=20):
    """Fails where what stands within takes longer; else a walk along all of very many ways would go on for years."""

    def fail(*ignored):
        raise AssertionError("no answer within %d seconds" % seconds)

    before = signal.signal(signal.SIGALRM, fail)
    signal.alarm(seconds)
    try:
        yield
    finally:
        signal.alarm(0)
        signal.signal(signal.SIGALRM, before)


def encode(text):
    return list(text.encode("latin-1"))


def person(number, sex="m", father="-", mother="-", birth="?-?-?", death="?-?-?"):
    return "%s %s %s %s A < %s %s\n" % (number, sex, birth, death, father, mother)


def family(short):
    """The text for words such as 3f:1:2 (number, f or m, father, mother) or 3f (no parents)."""
    lines = []
    for word in short.split():
        who, *parents = word.split(":")
        lines.append(person(who[:-1], who[-1], *parents))
    return "".join(lines)


def backwards(text):
    """The same persons in lines of the opposite order."""
    return "".join(reversed(text.splitlines(keepends=True)))


def brothers_and_sisters(generations, first=1):
    """In each generation a brother and a sister, both children of the two in the one before: the top has first."""
    words = ["%dm %df" % (first, first + 1)]
    for number in range(first + 2, first + 2 * generations, 2):
        words.append("%dm:%d:%d %df:%d:%d" % (number, number - 2, number - 1, number + 1, number - 2, number - 1))
    return family(" ".join(words))


def parents_of(text):
    """Fathers and mothers by the number, None for one not known, read from a text of family()'s form."""
    parents = {}
    for line in text.splitlines():
        words = line.split()
        parents[int(words[0])] = [None if word == "-" else int(word) for word in words[-2:]]
    return parents


def random_family(seed, most=14):
    """A text with persons of all sorts of relations: each has parents among those before, or not."""
    source = random.Random(seed)
    numbers = source.sample(range(1, 60), source.randint(2, most))
    words = []
    men, women = ["-"], ["-"]
    for number in numbers:
        sex = source.choice("fm")
        # Those who came last are likelier, so that there are several generations.
        father, mother = source.choice(men[-4:]), source.choice(women[-4:])
        words.append("%d%s:%s:%s" % (number, sex, father, mother))
        (men if sex == "m" else women).append(number)
    source.shuffle(words)
    return family(" ".join(words))


NO_FAMILIES = (
    "x",
    "1m\n",
    family("1m 2f 1f"),
    family("1m 2f:3:-"),
    family("1m 2f:-:1"),
    family("1m:1:- 2f"),
    family("1m 2f 3m:4:- 4m:3:-"),
    family("2f " + " ".join("%dm:%d:-" % (number, number + 1) for number in range(100, 131)) + " 131m 1m"),
    family("1m 2f") + person(3, birth="1902-?-?", death="1901-?-?"),
    family("1m 2f") + "#" * 256,
)
NOBODYS_NUMBERS = (LEAST, LEAST + 1, -9999, -3, -2, -1, 0, 4, 9, 10, 11, 21, 10000, 10001, 65537, MOST - 1, MOST)


class Answers:
    """Tests for a call whose first argument is a person's number; what takes it in sets call, seconds and text."""

    call = None
    # What may stand as the second argument beside a text that has the persons 1, 2 and 3.
    seconds = (1, 2, 3)
    text = family("1m 2f 3f:1:2")

    def ask(self, one, other, text):
        return type(self).call(one, other, encode(text))

    def test_a_text_that_is_no_families(self):
        for text in NO_FAMILIES:
            for one in (1, 2, 3, *NOBODYS_NUMBERS):
                for other in (*self.seconds, *NOBODYS_NUMBERS):
                    with self.subTest(text=text, one=one, other=other):
                        self.assertEqual(self.ask(one, other, text), [-1])

    def test_a_first_number_that_is_nobodys(self):
        for text in (self.text, backwards(self.text), "# 4\n" + self.text):
            for one in NOBODYS_NUMBERS:
                for other in (*self.seconds, *NOBODYS_NUMBERS):
                    with self.subTest(text=text, one=one, other=other):
                        self.assertEqual(self.ask(one, other, text), [-2])

    def test_a_text_without_persons(self):
        for text in ("", "\n", "# 1 2 3\n", " \t"):
            for one in (1, *NOBODYS_NUMBERS):
                for other in (*self.seconds, *NOBODYS_NUMBERS):
                    self.assertEqual(self.ask(one, other, text), [-2])

    def test_is_a_list_of_whole_numbers(self):
        for text in (self.text, "x", ""):
            for one in (1, 2, 3, 4):
                for other in self.seconds:
                    answer = self.ask(one, other, text)
                    self.assertIs(type(answer), list)
                    self.assertEqual({type(number) for number in answer}, {int})

    def test_leaves_the_text_as_it_was(self):
        for text in (self.text, "x", "", self.text + "x", " \t#\n" + self.text):
            for one in (1, 3, 4):
                for other in self.seconds:
                    handed = encode(text)
                    type(self).call(one, other, handed)
                    self.assertEqual(handed, encode(text))

    def test_is_the_same_whatever_was_asked_before(self):
        texts = (self.text, self.text + "x", "", family("3m 2f 1m:3:2"), backwards(self.text))
        asked = [(one, other, text) for text in texts for one in (1, 2, 3, 4) for other in self.seconds]
        first = [self.ask(*these) for these in asked]
        self.assertEqual([self.ask(*these) for these in asked], first)
        self.assertEqual([self.ask(*these) for these in reversed(asked)], first[::-1])

    def test_is_a_list_of_its_own_each_time(self):
        for text in (self.text, "x", ""):
            for other in self.seconds:
                answer = self.ask(3, other, text)
                kept = list(answer)
                answer.append(9)
                self.assertEqual(self.ask(3, other, text), kept)


class AnswersOfTwo(Answers):
    """The same for a call whose second argument is a person's number too."""

    def test_a_second_number_that_is_nobodys(self):
        for text in (self.text, backwards(self.text), "# 4\n" + self.text):
            for other in NOBODYS_NUMBERS:
                for one in (1, 2, 3):
                    with self.subTest(text=text, one=one, other=other):
                        self.assertEqual(self.ask(one, other, text), [-2])

    def test_numbers_at_the_ends_of_what_persons_have(self):
        text = family("1m 9999f 5f:1:9999")
        for one in (1, 5, 9999):
            for other in (1, 5, 9999):
                self.assertNotIn(self.ask(one, other, text), ([-1], [-2]))
        for number in (0, 2, 9998, 10000):
            self.assertEqual(self.ask(1, number, text), [-2])
            self.assertEqual(self.ask(number, 9999, text), [-2])
