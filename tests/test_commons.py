import copy
import time
import unittest
from itertools import combinations, product

from rankwright.commons import greatest_common, is_cover, least_cover
from rankwright.errors import BadMatroid, BadSet, Unlike
from rankwright.makers import by_family, by_graph, named, uniform
from rankwright.matroids import Matroid
from tests import pack_words, small, words, wrong
from tests.small import EMPTY, FIVE, FOUR, LOOPS, MIXED, TEN


class GreatestTest(unittest.TestCase):

    def compared(self, one, other):
        common = pack_words.common_sets(one, other)
        most = max(map(len, common))
        found = greatest_common(one, other)
        self.assertEqual(found, min(members for members in common if len(members) == most), (one.bases, other.bases))
        covers = pack_words.covers(one, other, found)
        self.assertEqual(least_cover(one, other), pack_words.in_all_others(covers), (one.bases, other.bases))
        return common, most

    def test_all_pairs_on_three_elements_at_most(self):
        for ground in small.GROUNDS:
            for one, other in product(small.matroids_on(ground), repeat=2):
                common, most = self.compared(one, other)
                for members in common:
                    covers = pack_words.covers(one, other, members)
                    self.assertEqual(bool(covers), len(members) == most)
                    for thing in words.sets_within(ground):
                        self.assertIs(is_cover(one, other, members, thing), thing in covers)

    def test_pairs_on_four_and_five_elements(self):
        found = small.matroids_on(FOUR)
        for at, one in enumerate(found):
            for other in found[at % 5::5]:
                self.compared(one, other)
        found = small.matroids_on(FIVE)
        for one, other in zip(found[::3], found[100::3] + found[:100:3]):
            self.compared(one, other)
            self.compared(other, one)

    def test_greater_ones(self):
        ground = TEN[:7]
        matching = by_graph(((0, 1), (1, 2), (0, 2), (2, 3), (3, 4), (4, 5), (3, 5)), ground)
        for one, other in ((named("F7"), matching), (named("F7"), named("F7*")), (matching, matching.dual()),
                           (uniform(2, ground), named("F7*"))):
            self.compared(one, other)

    def test_ten_elements(self):
        halves = by_family((TEN[:5], TEN[5:]), TEN)
        start = time.perf_counter()
        self.assertEqual((greatest_common(named("K5"), halves), least_cover(named("K5"), halves)), ((0, 5), ()))
        for size, many in product(range(11), repeat=2):
            one, other = uniform(size, TEN), uniform(many, TEN)
            found = greatest_common(one, other)
            self.assertEqual(found, TEN[:min(size, many)])
            self.assertEqual(least_cover(one, other), () if many <= size else TEN)
            self.assertIs(is_cover(one, other, found, least_cover(one, other)), True)
        self.assertLess(time.perf_counter() - start, 10)

    def test_rank_0_and_the_empty_ground(self):
        self.assertEqual((greatest_common(EMPTY, EMPTY), least_cover(EMPTY, EMPTY)), ((), ()))
        self.assertEqual(greatest_common(LOOPS, uniform(2, (4, 5))), ())
        self.assertEqual(least_cover(LOOPS, uniform(2, (4, 5))), (4, 5))
        self.assertEqual(least_cover(uniform(2, (4, 5)), LOOPS), ())

    def test_arguments_by_name(self):
        one, other = Matroid((1, 2), ((1,),)), Matroid((1, 2), ((1,), (2,)))
        self.assertEqual(greatest_common(other=other, one=one), (1,))
        self.assertEqual(least_cover(other=one, one=other), ())
        self.assertIs(is_cover(thing=(), common=(1,), other=one, one=other), True)


class IsCoverTest(unittest.TestCase):

    def test_all_common_sets_of_four_elements(self):
        found = small.matroids_on(FOUR)
        for one, other in zip(found[::2], found[20::2] + found[:20:2]):
            for members in pack_words.common_sets(one, other):
                for thing in words.sets_within(FOUR):
                    wanted = pack_words.is_cover(one, other, members, thing)
                    self.assertIs(is_cover(one, other, members, thing), wanted)

    def test_any_value(self):
        one = uniform(2, (0, 1, 2))
        for thing in wrong.no_sets_within((0, 1, 2)):
            with self.subTest(kind=type(thing).__name__):
                self.assertIs(is_cover(one, one, (0, 1), thing), False)
                self.assertIs(is_cover(EMPTY, EMPTY, (), thing), False)
        self.assertIs(is_cover(one, one, (0, 1), ()), True)
        self.assertIs(is_cover(one, one, (0, 1), (0, 1, 2)), True)
        self.assertIs(is_cover(one, one, (0, 1), [0, 1, 2]), False)

    def test_what_is_no_common_set(self):
        one, other = uniform(2, (0, 1, 2)), Matroid((0, 1, 2), ((0,), (1,)))
        for thing in wrong.no_sets_within((0, 1, 2)) + [(2,), (0, 1), (0, 2), (0, 1, 2), [0], {0}]:
            with self.subTest(kind=type(thing).__name__):
                self.assertRaises(BadSet, is_cover, one, other, thing, ())
                self.assertRaises(BadSet, is_cover, other, one, thing, None)
                self.assertRaises(BadSet, is_cover, thing=[], common=thing, other=other, one=one)
        for members in ((), (0,), (1,)):
            self.assertIn(is_cover(one, other, members, ()), (True, False))


class ErrorsTest(unittest.TestCase):

    def test_what_is_no_matroid(self):
        for thing in small.NO_MATROIDS:
            with self.subTest(kind=type(thing).__name__):
                for function in (greatest_common, least_cover):
                    self.assertRaises(BadMatroid, function, thing, EMPTY)
                    self.assertRaises(BadMatroid, function, LOOPS, thing)
                    self.assertRaises(BadMatroid, function, other=thing, one=thing)
                self.assertRaises(BadMatroid, is_cover, thing, EMPTY, None, None)
                self.assertRaises(BadMatroid, is_cover, EMPTY, thing, None, None)
                self.assertRaises(BadMatroid, is_cover, thing=(), common=(), other=thing, one=thing)

    def test_other_grounds(self):
        for one, other in ((EMPTY, LOOPS), (LOOPS, EMPTY), (uniform(1, (0, 1)), uniform(1, (0, 2))), (MIXED, LOOPS),
                           (uniform(5, TEN), uniform(5, TEN[:9]))):
            self.assertRaises(Unlike, greatest_common, one, other)
            self.assertRaises(Unlike, least_cover, one, other)
            self.assertRaises(Unlike, is_cover, one, other, None, None)

    def test_what_is_handed_in_stays_as_it_was(self):
        one, thing = uniform(2, (0, 1, 2)), [0, 1]
        before = copy.copy(thing)
        self.assertRaises(BadSet, is_cover, one, one, thing, thing)
        self.assertIs(is_cover(one, one, (0, 1), thing), False)
        greatest_common(one, one), least_cover(one, one)
        self.assertEqual((thing, one.ground, one.bases), (before, (0, 1, 2), tuple(combinations((0, 1, 2), 2))))
