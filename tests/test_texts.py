import re
import time
import unittest
from itertools import combinations

from rankwright.errors import BadMatroid, BadTable, BadText
from rankwright.makers import NAMES, named, uniform
from rankwright.matroids import Matroid
from rankwright.texts import read, write
from tests import small, words, wrong
from tests.small import EMPTY, FIVE, FOUR, LOOPS, MIXED, TEN

NUMBERS = r"(?: (?:0|[1-9][0-9]*))*"
TEXTS = ["ground 7 199\nbase 7\nbase 199", "ground 0 1 2\nbase 0 1\nbase 0 2", "ground\nbase", "ground 4 5\nbase",
         "ground 10 11 100\nbase 10 11 100", "ground 0 1 2 3\nbase 0 1\nbase 2 3", "ground 1\nbase\nbase 1"]


def slow_read(source):
    """What reading a text tells: a pair of the ground and the bases, a number of a line, or a fault."""
    lines = source.split("\n")
    ground = numbers_in(lines[0], "ground")
    if ground is None or not is_set(ground) or len(ground) > 10:
        return 1
    bases = []
    for at, line in enumerate(lines[1:]):
        base = numbers_in(line, "base")
        if base is None or not is_set(base) or not words.is_within(base, ground) or any(base <= x for x in bases):
            return at + 2
        bases.append(base)
    if not bases:
        return len(lines) + 1
    return words.fault("bases", ground, tuple(bases)) or ((ground, tuple(bases)),)


def numbers_in(line, word):
    return tuple(map(int, line.split(" ")[1:])) if re.fullmatch(word + NUMBERS, line) else None


def is_set(members):
    return all(0 <= x <= 199 for x in members) and list(members) == sorted(set(members))


def told(source):
    try:
        matroid = read(source)
    except BadText as error:
        return error.line
    except BadTable as error:
        return error.fault
    return ((matroid.ground, matroid.bases),)


def bent(text):
    """Texts with one sign less, more or other, or a line less, twice or elsewhere."""
    for at in range(len(text) + 1):
        yield text[:at] + text[at + 1:]
        for sign in "019 -+\nbg_.":
            yield text[:at] + sign + text[at:]
            yield text[:at] + sign + text[at + 1:]
    lines = text.split("\n")
    for at in range(len(lines)):
        yield "\n".join(lines[:at] + lines[at + 1:])
        yield "\n".join(lines[:at] + lines[at:at + 1] + lines[at:])
        yield "\n".join(lines[at:] + lines[:at])
        yield "\n".join(lines[:at])


class WriteTest(unittest.TestCase):

    def test_lines(self):
        for matroid in small.matroids_on_each(small.GROUNDS + [FOUR]) + [MIXED, LOOPS, EMPTY, named("F7")]:
            text = write(matroid)
            self.assertIs(type(text), str)
            wanted = ["ground" + "".join(f" {x}" for x in matroid.ground)]
            wanted += ["base" + "".join(f" {x}" for x in base) for base in matroid.bases]
            self.assertEqual(text.split("\n"), wanted)

    def test_empty_ones(self):
        self.assertEqual(write(EMPTY), "ground\nbase")
        self.assertEqual(write(matroid=LOOPS), "ground 4 5\nbase")

    def test_what_is_no_matroid(self):
        for thing in small.NO_MATROIDS:
            with self.subTest(kind=type(thing).__name__):
                self.assertRaises(BadMatroid, write, thing)
                self.assertRaises(BadMatroid, write, matroid=thing)


class ReadTest(unittest.TestCase):

    def test_texts_read_back(self):
        for matroid in small.matroids_on_each(small.GROUNDS + [FOUR, FIVE]) + [MIXED] + [named(x) for x in NAMES] + [
                uniform(size, TEN) for size in range(11)]:
            self.assertEqual(read(write(matroid)), matroid)
            self.assertIs(type(read(source=write(matroid))), Matroid)

    def test_bent_texts(self):
        for text in TEXTS:
            self.assertEqual(told(text), slow_read(text))
            for source in bent(text):
                self.assertEqual(told(source), slow_read(source), repr(source))

    def test_the_first_line_that_is_wrong(self):
        for source, line in (("", 1), ("\n", 1), ("ground", 2), ("ground 0", 2), ("ground\n", 2), ("ground\nbase\n", 3),
                             ("ground 0\nbase 0\nbase 0", 3), ("ground 0 1\nbase 1\nbase 0", 3), ("base", 1),
                             ("ground 0 1\nbase 0\nbase 2", 3), ("ground 0 1\nbase 1 0", 2), ("ground 1 0\nbase", 1),
                             ("ground 0 0\nbase", 1), ("ground 200\nbase", 1), ("ground -1\nbase", 1),
                             ("ground 00\nbase", 1), ("ground 01\nbase", 1), ("ground +1\nbase", 1), ("ground  1\nbase", 1),
                             ("ground 1 \nbase", 1), (" ground 1\nbase", 1), ("ground1\nbase", 1), ("Ground 1\nbase", 1),
                             ("ground 1\nbases", 2), ("ground 1\nground 1", 2), ("ground 1\nbase\n\nbase 1", 3),
                             ("ground 1_0\nbase", 1), ("ground 1.0\nbase", 1), ("ground x\nbase", 1), ("base 0\nground 0", 1),
                             ("ground 0 1 2 3 4 5 6 7 8 9 10\nbase", 1), ("ground\nbase 0", 2), ("ground,0\nbase", 1),
                             ("ground 1,2\nbase", 1), ("ground 0\nbase 0\nbase 00", 3), ("ground 0\nnone", 2)):
            with self.assertRaises(BadText) as caught:
                read(source)
            self.assertEqual(caught.exception.line, line, repr(source))

    def test_a_wrong_line_is_told_before_a_fault(self):
        self.assertEqual(told("ground 0 1\nbase\nbase 0\nbase 0"), 4)
        self.assertEqual(told("ground 0 1\nbase\nbase 0"), ("sizes", (), (0,)))
        self.assertEqual(told("ground 0 1 2 3\nbase 0 1\nbase 2 3"), ("exchange", (0, 1), (2, 3), 0))

    def test_great_numbers(self):
        for number in ("9" * 900, "1" + "0" * 900, "0" * 900, "1999", "1000"):
            self.assertEqual(told(f"ground {number}\nbase"), 1)
            self.assertEqual(told(f"ground 1\nbase {number}"), 2)

    def test_signs_that_are_no_digits_of_python(self):
        for sign in ("\u00b2", "\u0663", "\uff11", "\u2460", "\t1", "1\r"):
            self.assertEqual(told(f"ground {sign}\nbase"), 1)

    def test_what_is_no_string(self):
        for thing in [x for x in wrong.OTHERS if not isinstance(x, str)] + [
                b"ground\nbase", ["ground", "base"], ("ground\nbase",)]:
            with self.subTest(kind=type(thing).__name__):
                with self.assertRaises(BadText) as caught:
                    read(thing)
                self.assertEqual(caught.exception.line, 0)
                self.assertRaises(BadText, read, source=thing)

    def test_long_texts(self):
        start = time.perf_counter()
        text = write(uniform(5, TEN))
        self.assertEqual(told(text + "\nbase 0 1 2 3 4"), len(text.split("\n")) + 1)
        self.assertEqual(told("ground " + "0 " * 100000 + "\nbase"), 1)
        self.assertEqual(told("ground\n" + "\n" * 100000), 2)
        bases = [base for base in combinations(TEN, 5) if base != TEN[:5]]
        self.assertEqual(told(write(uniform(5, TEN)).replace("base 0 1 2 3 4\n", "")), ((TEN, tuple(bases)),))
        self.assertLess(time.perf_counter() - start, 5)
