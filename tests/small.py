"""Matroids for tests: all those on small grounds, and things that are none."""

from itertools import combinations

from rankwright.matroids import Matroid
from tests import words, wrong

TEN = tuple(range(10))
GROUNDS = [(), (7,), (0, 199), (2, 3, 5)]
FOUR = (0, 7, 8, 150)
FIVE = (1, 10, 100, 101, 199)

NO_MATROIDS = wrong.OTHERS + [(), ((0, 1), ((0,), (1,))), Matroid, [Matroid((), ((),))], (Matroid((), ((),)),)]


def matroids_on(ground):
    return [Matroid(ground, bases) for bases in words.all_bases(ground)]


def matroids_on_each(grounds):
    return [matroid for ground in grounds for matroid in matroids_on(ground)]


def uniform_on(size, ground):
    return Matroid(ground, tuple(combinations(ground, size)))


# With a loop (3), a coloop (9), parallel elements (4 and 7), and a gap.
MIXED = Matroid((3, 4, 7, 8, 9), ((4, 8, 9), (7, 8, 9)))
EMPTY = Matroid((), ((),))
LOOPS = Matroid((4, 5), ((),))
