import copy
import time
import unittest
from itertools import combinations, permutations, product
from math import factorial

from rankwright.errors import BadMatroid, TooMany, Unlike
from rankwright.extensions import relaxed
from rankwright.likeness import apart_tree, form_of, is_apart_tree, is_mapping, mapping_between, symmetry_count
from rankwright.logs import contracted, deleted
from rankwright.makers import named, summed, uniform
from rankwright.matroids import Matroid
from tests import alike_words, small, words, wrong
from tests.small import EMPTY, FIVE, FOUR, LOOPS, MIXED, TEN

OTHER_FOUR = (3, 4, 60, 199)
SEVEN = TEN[:7]
EIGHT = TEN[:8]
LINES = ((0, 1, 2), (0, 3, 4), (0, 5, 6), (1, 3, 5), (1, 4, 6), (2, 3, 6), (2, 4, 5))
# The planes of the affine space with eight points.
PLANES = [line + (7,) for line in LINES] + [tuple(x for x in range(7) if x not in line) for line in LINES]


def without(ground, size, gone):
    """All sets of a size but some are bases."""
    return Matroid(ground, tuple(base for base in combinations(ground, size) if base not in gone))


def renamed(matroid, names):
    to = dict(zip(matroid.ground, names))
    bases = tuple(sorted(tuple(sorted(to[x] for x in base)) for base in matroid.bases))
    return Matroid(tuple(sorted(names)), bases)


def pairs_of_small_ones():
    for many, other_ground in (((), ()), ((7,), (4,)), ((0, 199), (0, 1)), ((2, 3, 5), (1, 3, 150))):
        yield from product(small.matroids_on(many), small.matroids_on(other_ground))


# Pairs of five and more elements, some alike and some not.
GREATER = [
    (without(FIVE, 3, [(1, 10, 100)]), without(FIVE, 3, [(10, 100, 199)])),
    (without(FIVE, 3, [(1, 10, 100)]), uniform(3, FIVE)),
    (without(FIVE, 2, [(1, 10)]), without(TEN[:5], 2, [(3, 4)])),
    (without(FIVE, 2, [(1, 10)]), without(TEN[:5], 2, [(1, 2), (3, 4)])),
    (without(FIVE, 2, [(1, 10), (100, 101)]), without(FIVE, 2, [(10, 101), (100, 199)])),
    (Matroid(FIVE, ((1, 10), (1, 100))), Matroid(TEN[:5], ((0, 4), (3, 4)))),
    (MIXED, Matroid(TEN[:5], ((0, 1, 2), (0, 1, 3)))),
    (MIXED, MIXED.dual()),
]


class MappingTest(unittest.TestCase):

    def compared(self, one, other):
        wanted = alike_words.mappings(one, other)
        self.assertEqual(mapping_between(one, other), min(wanted, default=None), (one.bases, other.bases))

    def test_all_pairs_on_three_elements_at_most(self):
        for one, other in pairs_of_small_ones():
            self.compared(one, other)

    def test_all_pairs_on_four_elements(self):
        for one, other in product(small.matroids_on(FOUR), small.matroids_on(OTHER_FOUR)):
            if len(one.bases) == len(other.bases):
                self.compared(one, other)
            else:
                self.assertIsNone(mapping_between(one, other))

    def test_pairs_on_five_elements(self):
        for one, other in GREATER:
            self.compared(one, other)
        found = small.matroids_on(FIVE)
        for one, other in zip(found[::7], found[5::7]):
            self.compared(one, other)
            self.compared(one, renamed(one, (9, 2, 4, 0, 100)))

    def test_seven_and_eight_elements(self):
        f7 = named("F7")
        names = (12, 3, 150, 7, 0, 40, 9)
        self.compared(f7, renamed(f7, names))
        self.compared(f7, without(SEVEN, 3, LINES[1:]))
        planes = without(EIGHT, 4, PLANES)
        for gone, other_gone in ((PLANES[0], PLANES[5]), (PLANES[9], PLANES[3])):
            one, other = relaxed(planes, gone), relaxed(planes, other_gone)
            self.assertTrue(is_mapping(one, other, mapping_between(one, other)))
        self.assertIsNone(mapping_between(planes, relaxed(planes, PLANES[0])))
        self.assertEqual(mapping_between(planes, planes), EIGHT)

    def test_eight_elements_against_all_orders(self):
        one = without(EIGHT, 4, [(0, 1, 2, 3), (4, 5, 6, 7)])
        other = without(EIGHT, 4, [(0, 2, 4, 6), (1, 3, 5, 7)])
        bases = set(other.bases)
        wanted = min(images for images in permutations(EIGHT)
                     if tuple(sorted(images[:4])) not in bases and tuple(sorted(images[4:])) not in bases)
        self.assertEqual(mapping_between(one, other), wanted)

    def test_unlike_ranks_are_no_error(self):
        self.assertIsNone(mapping_between(uniform(2, FOUR), uniform(1, FOUR)))
        self.assertIsNone(mapping_between(uniform(0, EIGHT), uniform(8, EIGHT)))

    def test_the_empty_ground(self):
        self.assertEqual(mapping_between(EMPTY, EMPTY), ())

    def test_arguments_by_name(self):
        self.assertEqual(mapping_between(other=Matroid((4, 7), ((7,),)), one=Matroid((0, 1), ((0,),))), (7, 4))

    def test_no_answer_takes_long(self):
        start = time.perf_counter()
        for size in range(9):
            mapping_between(uniform(size, EIGHT), uniform(size, TEN[2:]))
            for gone, other_gone in (((0, 1, 2, 3), (4, 5, 6, 7)), ((0, 2, 4, 7), (1, 2, 3, 5))):
                mapping_between(without(EIGHT, 4, [gone]), without(EIGHT, 4, [other_gone]))
        for many in range(1, 14):
            mapping_between(without(EIGHT, 4, PLANES[:many]), without(EIGHT, 4, PLANES[14 - many:]))
        self.assertLess(time.perf_counter() - start, 5)


class IsMappingTest(unittest.TestCase):

    def test_all_tuples_for_small_ones(self):
        for one, other in pairs_of_small_ones():
            wanted = alike_words.mappings(one, other)
            for many in range(len(other.ground) + 2):
                for thing in product(other.ground, repeat=many):
                    self.assertEqual(is_mapping(one, other, thing), thing in wanted, (one.bases, other.bases, thing))

    def test_all_orders_for_four_and_five(self):
        for one, other in GREATER + list(zip(small.matroids_on(FOUR)[::5], small.matroids_on(OTHER_FOUR)[::5])):
            for thing in permutations(other.ground):
                self.assertIs(is_mapping(one, other, thing), alike_words.is_mapping(one, other, thing))

    def test_nine_and_ten_elements(self):
        for name in ("K33", "K5", "K5*"):
            matroid = named(name)
            self.assertIs(is_mapping(matroid, matroid, matroid.ground), True)
            self.assertIs(is_mapping(matroid, matroid, matroid.ground[::-1]),
                          renamed(matroid, matroid.ground[::-1]) == matroid)
        names = (5, 199, 4, 0, 77, 12, 13, 30, 2, 60)
        self.assertIs(is_mapping(named("K5"), renamed(named("K5"), names), names), True)
        self.assertIs(is_mapping(named("K5"), renamed(named("K5"), names), names[1:] + names[:1]), False)

    def test_other_numbers_of_elements(self):
        for one, other in ((EMPTY, LOOPS), (LOOPS, EMPTY), (uniform(1, (0, 1)), uniform(1, (0, 1, 2)))):
            for thing in [(), (0,), (0, 1), (4, 5), (0, 1, 2), None] + wrong.OTHERS:
                self.assertIs(is_mapping(one, other, thing), False)

    def test_any_value(self):
        one, other = uniform(1, (0, 1)), uniform(1, (0, 1))
        self.assertIs(is_mapping(one, other, (1, 0)), True)
        bent = [[0, 1], (0, True), (False, 1), (0, 1.0), ("0", "1"), (0, 0), (0, 1, 0), ((0, 1),), ((0,), (1,)), (0, 2),
                (0, [1]), ({}, 1), (wrong.Anything(), wrong.Nothing()), (0, None), {0: 0, 1: 1}]
        for thing in wrong.OTHERS + bent + [(0, x) for x in wrong.NO_ELEMENTS] + [(x, 1) for x in wrong.NO_ELEMENTS]:
            with self.subTest(kind=type(thing).__name__):
                self.assertIs(is_mapping(one, other, thing), False)
        for thing in wrong.OTHERS:
            self.assertIs(is_mapping(EMPTY, EMPTY, thing), False)
        self.assertIs(is_mapping(EMPTY, EMPTY, ()), True)

    def test_arguments_by_name(self):
        self.assertIs(is_mapping(thing=(7, 4), other=Matroid((4, 7), ((7,),)), one=Matroid((0, 1), ((0,),))), True)


class ApartTreeTest(unittest.TestCase):

    def compared(self, one, other):
        found = apart_tree(one, other)
        if alike_words.mappings(one, other):
            self.assertIsNone(found, (one.bases, other.bases))
        else:
            self.assertEqual(found, alike_words.least_tree(one, other), (one.bases, other.bases))
            self.assertIs(is_apart_tree(one, other, found), True)

    def test_all_pairs_on_three_elements_at_most(self):
        for one, other in pairs_of_small_ones():
            self.compared(one, other)

    def test_pairs_on_four_elements(self):
        found = small.matroids_on(FOUR)
        others = small.matroids_on(OTHER_FOUR)
        for at, one in enumerate(found):
            for other in others[at % 9::9]:
                self.compared(one, other)

    def test_pairs_on_five_elements(self):
        for one, other in GREATER:
            self.compared(one, other)
            self.compared(other, one)

    def test_six_elements(self):
        ground = TEN[:6]
        self.compared(without(ground, 3, [(0, 1, 2)]), uniform(3, ground))
        self.compared(without(ground, 3, [(0, 1, 2), (3, 4, 5)]), without(ground, 3, [(0, 1, 2), (2, 3, 4)]))

    def test_seven_elements(self):
        one, other = named("F7"), without(SEVEN, 3, LINES[1:])
        start = time.perf_counter()
        found = apart_tree(one, other)
        self.assertIs(is_apart_tree(one, other, found), True)
        self.assertLess(time.perf_counter() - start, 5)
        for path, members in found[::5]:
            self.assertEqual(alike_words.fitting(one, other, path)[0], members)
            self.assertEqual(alike_words.fitting(one, other, path[:-1]), [])

    def test_no_answer_takes_long(self):
        start = time.perf_counter()
        for size in range(8):
            self.assertIsNone(apart_tree(uniform(size, SEVEN), uniform(size, TEN[3:])))
            apart_tree(uniform(size, SEVEN), uniform(7 - size, SEVEN))
        # Unlike but in a set that ends with the last element, so that all paths are long.
        found = apart_tree(uniform(6, SEVEN), uniform(7, SEVEN))
        self.assertEqual(len(found), factorial(7))
        self.assertIs(is_apart_tree(uniform(6, SEVEN), uniform(7, SEVEN), found), True)
        self.assertLess(time.perf_counter() - start, 5)

    def test_the_empty_ground(self):
        self.assertIsNone(apart_tree(EMPTY, EMPTY))
        for thing in wrong.OTHERS + [(), (((), ()),), ((),)]:
            self.assertIs(is_apart_tree(EMPTY, EMPTY, thing), False)

    def test_arguments_by_name(self):
        one, other = Matroid((0, 1), ((0, 1),)), Matroid((0, 1), ((0,),))
        tree = (((0, 1), (0, 1)), ((1,), (0,)))
        self.assertEqual(apart_tree(other=other, one=one), tree)
        self.assertIs(is_apart_tree(thing=tree, other=other, one=one), True)


class IsApartTreeTest(unittest.TestCase):
    ONE, OTHER = Matroid((0, 1, 2), ((0, 1), (0, 2))), Matroid((3, 5, 9), ((3, 5), (3, 9), (5, 9)))

    def all_pairs(self, one, other):
        """All pairs of a path, and a set of elements that have images by it."""
        return [(path, members) for many in range(len(other.ground) + 1) for path in permutations(other.ground, many)
                for members in words.sets_within(one.ground[:many])]

    def test_all_tuples_of_pairs_for_two_elements(self):
        for one, other in product(small.matroids_on((0, 199)), small.matroids_on((4, 6))):
            pairs = self.all_pairs(one, other)
            for many in range(4):
                for thing in combinations(pairs, many):
                    wanted = alike_words.is_tree(one, other, thing)
                    self.assertIs(is_apart_tree(one, other, thing), wanted, (one.bases, other.bases, thing))
                    wanted = alike_words.is_tree(one, other, thing[::-1])
                    self.assertIs(is_apart_tree(one, other, thing[::-1]), wanted, (one.bases, other.bases, thing))

    def test_bent_trees_for_three_elements(self):
        tree = apart_tree(self.ONE, self.OTHER)
        self.assertEqual(tree, alike_words.least_tree(self.ONE, self.OTHER))
        pairs = self.all_pairs(self.ONE, self.OTHER)
        for at in range(len(tree)):
            self.judged(tree[:at] + tree[at + 1:])
            self.judged(tree[:at] + tree[at:at + 1] * 2 + tree[at + 1:])
            for pair in pairs:
                self.judged(tree[:at] + (pair,) + tree[at + 1:])
                self.judged(tree[:at] + (pair,) + tree[at:])
        for thing in permutations(tree):
            self.assertIs(is_apart_tree(self.ONE, self.OTHER, thing), thing == tree)

    def judged(self, thing):
        wanted = alike_words.is_tree(self.ONE, self.OTHER, thing)
        self.assertIs(is_apart_tree(self.ONE, self.OTHER, thing), wanted, thing)

    def test_all_sets_of_paths_where_each_path_fits(self):
        one, other = uniform(0, (0, 1, 2)), uniform(1, (3, 5, 9))
        paths = sorted(path for many in (1, 2) for path in permutations(other.ground, many)) + [(9, 5, 3)]
        for many in range(len(paths) + 1):
            for chosen in combinations(paths, many):
                thing = tuple((path, (0,)) for path in chosen)
                self.assertIs(is_apart_tree(one, other, thing), alike_words.is_tree(one, other, thing), chosen)

    def test_trees_with_longer_paths_or_other_sets(self):
        one, other = Matroid((0, 1), ((),)), Matroid((0, 1), ((0,), (1,)))
        self.assertEqual(apart_tree(one, other), (((0,), (0,)), ((1,), (0,))))
        for thing in ((((0, 1), (0,)), ((1,), (0,))), (((0,), (0,)), ((1, 0), (0, 1))), (((0, 1), (1,)), ((1, 0), (0,)))):
            self.assertIs(is_apart_tree(one, other, thing), True)
        for thing in ((((0,), (1,)), ((1,), (0,))), (((0,), (0,)), ((0, 1), (0,)), ((1,), (0,))), (((0,), (0,)),)):
            self.assertIs(is_apart_tree(one, other, thing), False)

    def test_any_value(self):
        one, other = Matroid((0, 1), ((0, 1),)), Matroid((0, 1), ((0,),))
        pairs = (((0, 1), (0, 1)), ((1,), (0,)))
        self.assertIs(is_apart_tree(one, other, pairs), True)
        bent = [list(pairs), ([(0, 1), (0, 1)], pairs[1]), (([0, 1], (0, 1)), pairs[1]), (((0, 1), [0, 1]), pairs[1]),
                (((0, True), (0, 1)), pairs[1]), (((0, 1), (0, True)), pairs[1]), (((0, 1), (0, 1), ()), pairs[1]),
                (((0, 1),), pairs[1]), (((0, 1), (1, 0)), pairs[1]), (((0, 0), (0, 1)), pairs[1]),
                (((0, 2), (0, 1)), pairs[1]), (((0, 1), (0, 2)), pairs[1]), (((0, 1, 2), (0, 1)), pairs[1]),
                (pairs[0], ((1,), (1,))), (pairs[0], ((1,), (0, 1))), pairs + ((),), pairs[::-1], pairs + pairs[1:]]
        parts = wrong.OTHERS + [(x,) for x in wrong.OTHERS]
        bent += parts + [(x, pairs[1]) for x in parts] + [(pairs[0], x) for x in parts]
        bent += [(pairs[0], (x, (0,))) for x in parts] + [(pairs[0], ((1,), x)) for x in parts]
        for thing in bent:
            with self.subTest(kind=type(thing).__name__):
                self.assertIs(is_apart_tree(one, other, thing), repr(thing) == repr(pairs))

    def test_alike_ones_have_none(self):
        one = uniform(1, (0, 1))
        for thing in [(), ((),), (((), ()),), (((0,), (0,)), ((1,), (0,))), (((0, 1), (0, 1)), ((1, 0), (0, 1)))]:
            self.assertIs(is_apart_tree(one, one, thing), False)


class FormTest(unittest.TestCase):

    def test_all_small_matroids(self):
        for matroid in small.matroids_on_each(small.GROUNDS + [FOUR]) + small.matroids_on(FIVE)[::5] + [MIXED]:
            self.assertEqual(form_of(matroid), alike_words.form(matroid), matroid.bases)

    def test_six_elements(self):
        ground = (1, 4, 30, 31, 32, 199)
        for matroid in (uniform(3, ground), without(ground, 3, [(1, 4, 30), (31, 32, 199)]), uniform(0, ground),
                        uniform(6, ground), without(ground, 2, [(4, 199)]), summed(MIXED, uniform(0, (100,)))):
            self.assertEqual(form_of(matroid), alike_words.form(matroid))

    def test_two_are_alike_exactly_if_their_forms_are_equal(self):
        found = small.matroids_on(FOUR)
        for one, other in product(found, small.matroids_on(OTHER_FOUR)[::3]):
            self.assertEqual(form_of(one) == form_of(other), mapping_between(one, other) is not None)
        self.assertNotEqual(form_of(LOOPS), form_of(uniform(0, (1, 2, 3))))

    def test_edges(self):
        self.assertEqual(form_of(EMPTY), (0, ((),)))
        self.assertEqual(form_of(matroid=LOOPS), (2, ((),)))
        self.assertEqual(form_of(Matroid((50,), ((50,),))), (1, ((0,),)))


class SymmetryTest(unittest.TestCase):

    def test_all_small_matroids(self):
        for matroid in small.matroids_on_each(small.GROUNDS + [FOUR]) + small.matroids_on(FIVE)[::9] + [MIXED]:
            self.assertEqual(symmetry_count(matroid), len(alike_words.mappings(matroid, matroid)), matroid.bases)

    def test_seven_elements(self):
        start = time.perf_counter()
        for size in range(8):
            self.assertEqual(symmetry_count(uniform(size, SEVEN)), factorial(7))
        self.assertEqual(symmetry_count(named("F7")), 168)
        self.assertEqual(symmetry_count(named("F7*")), 168)
        self.assertEqual(symmetry_count(matroid=without(SEVEN, 3, LINES[1:])), 24)
        self.assertLess(time.perf_counter() - start, 5)


class ErrorsTest(unittest.TestCase):
    PAIRS = (mapping_between, apart_tree)

    def test_what_is_no_matroid(self):
        for thing in small.NO_MATROIDS:
            for function in self.PAIRS:
                with self.subTest(function=function.__name__, kind=type(thing).__name__):
                    self.assertRaises(BadMatroid, function, thing, EMPTY)
                    self.assertRaises(BadMatroid, function, EMPTY, thing)
                    self.assertRaises(BadMatroid, function, uniform(3, TEN), thing)
                    self.assertRaises(BadMatroid, function, other=thing, one=thing)
            for function in (is_mapping, is_apart_tree):
                with self.subTest(function=function.__name__, kind=type(thing).__name__):
                    self.assertRaises(BadMatroid, function, thing, EMPTY, ())
                    self.assertRaises(BadMatroid, function, EMPTY, thing, None)
                    self.assertRaises(BadMatroid, function, LOOPS, thing, None)
                    self.assertRaises(BadMatroid, function, thing=(), other=thing, one=thing)
            for function in (form_of, symmetry_count):
                with self.subTest(function=function.__name__, kind=type(thing).__name__):
                    self.assertRaises(BadMatroid, function, thing)
                    self.assertRaises(BadMatroid, function, matroid=thing)

    def test_other_numbers_of_elements(self):
        for one, other in ((EMPTY, LOOPS), (LOOPS, EMPTY), (uniform(2, TEN), uniform(2, TEN[:9])), (MIXED, EMPTY)):
            self.assertRaises(Unlike, mapping_between, one, other)
            self.assertRaises(Unlike, apart_tree, one, other)
            for thing in (None, (), [], ((),)):
                self.assertRaises(Unlike, is_apart_tree, one, other, thing)

    def test_too_many(self):
        for most, many, call in ((8, 9, mapping_between), (8, 10, mapping_between), (7, 8, apart_tree),
                                 (7, 10, apart_tree), (7, 8, lambda one, other: is_apart_tree(one, other, None)),
                                 (7, 9, lambda one, other: is_apart_tree(one, other, ())),
                                 (6, 7, lambda one, other: form_of(one)), (6, 10, lambda one, other: form_of(one)),
                                 (7, 8, lambda one, other: symmetry_count(one)),
                                 (7, 10, lambda one, other: symmetry_count(one))):
            for size in (0, 3, many):
                with self.assertRaises(TooMany) as caught:
                    call(uniform(size, TEN[:many]), uniform(size, TEN[:many]))
                self.assertEqual(caught.exception.most, most)

    def test_what_is_handed_in_stays_as_it_was(self):
        one, other = Matroid((0, 1), ((0, 1),)), Matroid((0, 1), ((0,),))
        for thing in ([[0, 1]], ([0, 1],), [((0, 1), (0, 1)), ((1,), (0,))], (([0, 1], [0, 1]), [(1,), (0,)])):
            before = copy.deepcopy(thing)
            is_mapping(one, other, thing), is_apart_tree(one, other, thing)
            self.assertEqual(thing, before)
        mapping_between(one, other), apart_tree(one, other), form_of(one), symmetry_count(one)
        self.assertEqual((one.ground, one.bases, other.ground, other.bases), ((0, 1), ((0, 1),), (0, 1), ((0,),)))

    def test_duals_and_minors_of_alike_ones_are_alike(self):
        one, other = named("F7"), renamed(named("F7"), (12, 3, 150, 7, 0, 40, 9))
        images = mapping_between(one, other)
        self.assertIs(is_mapping(one.dual(), other.dual(), images), True)
        for at in range(7):
            rest = images[:at] + images[at + 1:]
            self.assertIs(is_mapping(deleted(one, (at,)), deleted(other, (images[at],)), rest), True)
            self.assertIs(is_mapping(contracted(one, (at,)), contracted(other, (images[at],)), rest), True)
