import copy
import time
import unittest
from itertools import combinations, product
from math import gcd

from rankwright.errors import BadMatroid, BadNumber, BadSets, Loop, TooMany
from rankwright.extensions import extended
from rankwright.logs import contracted, deleted
from rankwright.makers import by_graph, named, summed, uniform
from rankwright.matroids import Matroid
from rankwright.packings import (
    are_families, chain_of, even_families, greatest_packing, is_bound, is_packing, least_bound,
)
from tests import pack_words, small, words, wrong
from tests.small import EMPTY, FIVE, FOUR, LOOPS, MIXED, TEN

EIGHT = TEN[:8]
DENSE = by_graph(((0, 1), (0, 1), (0, 1), (2, 3), (3, 4), (2, 4), (5, 6)), (0, 2, 4, 6, 8, 10, 12))
WHEEL = by_graph(((0, 1), (0, 2), (0, 3), (0, 4), (1, 2), (2, 3), (3, 4), (1, 4)), EIGHT)
TAIL = by_graph(((0, 1), (0, 2), (0, 3), (1, 2), (1, 3), (2, 3), (3, 4), (3, 4)), EIGHT)
NO_NUMBERS = wrong.NO_INTEGERS + [0, 5, -1, 10, 10 ** 40, -10 ** 40]


def without_loops(matroids):
    return [matroid for matroid in matroids if not words.loops(matroid.ground, matroid.bases)]


ALL_SMALL = small.matroids_on_each(small.GROUNDS + [FOUR])
NO_LOOPS = without_loops(ALL_SMALL + small.matroids_on(FIVE))


class PackingTest(unittest.TestCase):

    def compared(self, matroid, many):
        found = greatest_packing(matroid, many)
        most = max(sum(map(len, sets)) for sets in pack_words.packings(matroid, many))
        self.assertIs(type(found), tuple)
        self.assertEqual((len(found), sum(map(len, found))), (many, most), matroid.bases)
        self.assertTrue(pack_words.is_packing(matroid, found), (matroid.bases, found))
        self.assertIs(is_packing(matroid, many, found), True)
        bounds = pack_words.bounds(matroid, found)
        self.assertEqual(least_bound(matroid, many), pack_words.in_all_others(bounds), matroid.bases)

    def test_all_small_matroids(self):
        for matroid in ALL_SMALL:
            for many in (1, 2, 3, 4):
                self.compared(matroid, many)

    def test_five_elements(self):
        for matroid in small.matroids_on(FIVE)[::4] + [MIXED]:
            for many in (1, 2, 3):
                self.compared(matroid, many)

    def test_greater_ones(self):
        for matroid, many in ((DENSE, 2), (DENSE, 3), (named("F7"), 2), (named("F7*"), 2), (WHEEL, 2), (TAIL, 2)):
            self.compared(matroid, many)

    def test_greatest_packings_have_bounds_and_others_have_none(self):
        for matroid in ALL_SMALL[::2]:
            for many in (1, 2, 3):
                most = sum(map(len, greatest_packing(matroid, many)))
                for sets in pack_words.packings(matroid, many):
                    bounds = [thing for thing in words.sets_within(matroid.ground)
                              if is_bound(matroid, many, sets, thing)]
                    self.assertEqual(bounds, pack_words.bounds(matroid, sets))
                    self.assertEqual(bool(bounds), sum(map(len, sets)) == most)

    def test_ten_elements(self):
        start = time.perf_counter()
        for matroid in [uniform(size, TEN) for size in range(11)] + [named("K5"), named("K5*"), named("K33")]:
            for many in (1, 2, 3, 4):
                found = greatest_packing(matroid, many)
                self.assertIs(is_packing(matroid, many, found), True)
                self.assertIs(is_bound(matroid, many, found, least_bound(matroid, many)), True)
                if matroid == uniform(matroid.rank, TEN):
                    self.assertEqual(sum(map(len, found)), min(10, many * matroid.rank))
        self.assertLess(time.perf_counter() - start, 10)

    def test_the_empty_ground_and_loops(self):
        for many in (1, 2, 3, 4):
            self.assertEqual(greatest_packing(EMPTY, many), ((),) * many)
            self.assertEqual(least_bound(EMPTY, many), ())
            self.assertEqual(greatest_packing(LOOPS, many), ((),) * many)
            self.assertEqual(least_bound(LOOPS, many), (4, 5))

    def test_arguments_by_name(self):
        one = uniform(1, (4, 6))
        self.assertEqual(sorted(greatest_packing(many=2, matroid=one)), [(4,), (6,)])
        self.assertEqual(least_bound(many=1, matroid=one), (4, 6))
        self.assertIs(is_packing(thing=((4,),), many=1, matroid=one), True)
        self.assertIs(is_bound(thing=(4, 6), packing=((4,),), many=1, matroid=one), True)


class JudgedPackingTest(unittest.TestCase):

    def test_all_tuples_of_sets(self):
        for ground in small.GROUNDS:
            sets = words.sets_within(ground)
            for matroid in small.matroids_on(ground):
                for many in (1, 2):
                    for thing in product(sets, repeat=many):
                        self.assertIs(is_packing(matroid, many, thing), pack_words.is_packing(matroid, thing))
                        self.assertIs(is_packing(matroid, 3, thing), False)
                        self.assertIs(is_packing(matroid, 3 - many, thing), False)

    def test_three_and_four_sets(self):
        for matroid in small.matroids_on((0, 199)) + [uniform(1, (0, 1, 2))]:
            sets = words.sets_within(matroid.ground)
            for many in (3, 4):
                for thing in product(sets, repeat=many):
                    self.assertIs(is_packing(matroid, many, thing), pack_words.is_packing(matroid, thing))

    def test_any_value(self):
        one = uniform(1, (0, 1, 2))
        sets = wrong.no_sets_within((0, 1, 2)) + [(0, 1), [0], {0}, 0]
        for thing in wrong.OTHERS + [(x, (1,)) for x in sets] + [((1,), x) for x in sets] + [
                [(0,), (1,)], ((0,), (0,)), ((0,),), ((0,), (1,), ()), (0, 1), {(0,): 1, (1,): 2}]:
            with self.subTest(kind=type(thing).__name__):
                self.assertIs(is_packing(one, 2, thing), False)
                self.assertRaises(BadSets, is_bound, one, 2, thing, ())
                self.assertRaises(BadSets, is_bound, thing=None, packing=thing, many=2, matroid=one)
        self.assertIs(is_packing(one, 2, ((0,), (1,))), True)
        self.assertIs(is_packing(one, 2, ((1,), ())), True)
        for thing in wrong.no_sets_within((0, 1, 2)):
            with self.subTest(kind=type(thing).__name__):
                self.assertIs(is_bound(one, 2, ((0,), (1,)), thing), False)
        self.assertIs(is_bound(one, 2, ((0,), (1,)), (0, 1, 2)), True)


class ChainTest(unittest.TestCase):

    def test_all_small_matroids_against_all_tuples_of_sets(self):
        for matroid in NO_LOOPS:
            self.assertEqual(chain_of(matroid), pack_words.chain(matroid), matroid.bases)

    def test_six_elements(self):
        for matroid in (uniform(3, TEN[:6]), extended(uniform(2, TEN[:5]), 5, ()),
                        extended(uniform(2, TEN[:5]), 5, ((1,),)), summed(uniform(1, (0, 1, 2)), uniform(2, (3, 4, 5)))):
            self.assertEqual(chain_of(matroid), pack_words.chain(matroid))

    def test_greater_ones(self):
        for matroid in (DENSE, WHEEL, TAIL, named("K33"), named("K5"), named("F7*"), uniform(9, TEN)):
            self.assertTrue(pack_words.is_chain(matroid, chain_of(matroid)))
        self.assertEqual(chain_of(matroid=DENSE), ((), (0, 2, 4), (0, 2, 4, 6, 8, 10), DENSE.ground))
        self.assertEqual(chain_of(TAIL), ((), EIGHT))

    def test_ten_elements(self):
        start = time.perf_counter()
        for size in range(1, 11):
            self.assertEqual(chain_of(uniform(size, TEN)), ((), TEN))
        nested = Matroid((0,), ((0,),))
        for at in range(1, 10):
            nested = extended(nested, at, () if at in (2, 4, 6, 8) else ((at - 1,),) if at == 1 else (nested.ground,))
        self.assertTrue(pack_words.is_chain(nested, chain_of(nested)))
        self.assertLess(time.perf_counter() - start, 5)

    def test_the_empty_ground(self):
        self.assertEqual((chain_of(EMPTY), even_families(EMPTY)), (((),), ()))
        self.assertIs(are_families(EMPTY, ((),), ()), True)
        for sets, thing in ((((), ()), ()), ((), ()), (((),), ((),)), (((),), None), (((),), []), (((), ()), ((),))):
            self.assertIs(are_families(EMPTY, sets, thing), False)

    def test_covered_by_independent_sets_and_bases_without_common_elements(self):
        for matroid in NO_LOOPS[1::3] + [DENSE, named("F7")]:
            pairs = pack_words.numbers(matroid, chain_of(matroid))
            for many in (1, 2, 3, 4):
                packed = sum(map(len, greatest_packing(matroid, many)))
                (first_s, first_r), (last_s, last_r) = pairs[0], pairs[-1]
                self.assertEqual(packed == len(matroid.ground), first_s <= many * first_r)
                self.assertEqual(packed == many * matroid.rank, last_s >= many * last_r)


class FamiliesTest(unittest.TestCase):

    def judged(self, matroid):
        found, sets = even_families(matroid), chain_of(matroid)
        self.assertIs(type(found), tuple)
        self.assertTrue(pack_words.are_even(matroid, sets, found), (matroid.bases, found))
        self.assertIs(are_families(matroid, sets, found), True)

    def test_all_small_matroids(self):
        for matroid in NO_LOOPS:
            self.judged(matroid)

    def test_up_to_eight_elements(self):
        start = time.perf_counter()
        for matroid in [uniform(size, EIGHT) for size in range(1, 9)] + [
                WHEEL, TAIL, DENSE, named("F7"), named("F7*"), WHEEL.dual(), uniform(3, TEN[:7]), uniform(4, TEN[:7]),
                summed(uniform(2, (0, 1, 2, 3, 4)), uniform(2, (5, 6, 7))), extended(named("F7"), 9, ())]:
            self.judged(matroid)
        self.assertLess(time.perf_counter() - start, 10)

    def test_just_the_chain_has_even_families(self):
        for matroid in NO_LOOPS[:120:2] + [by_graph(((0, 1), (0, 1), (1, 2), (1, 2)), FOUR)]:
            for told in pack_words.steps_up(matroid.ground):
                if all(r > 0 for s, r in pack_words.numbers(matroid, told)):
                    families = [pack_words.even_ones(matroid, inner, outer) for inner, outer in zip(told, told[1:])]
                    if pack_words.is_falling(matroid, told):
                        self.assertEqual(all(families), told == chain_of(matroid), (matroid.bases, told))
                    if all(families):
                        thing = tuple(family[0] for family in families)
                        wanted = told == chain_of(matroid)
                        self.assertIs(are_families(matroid, told, thing), wanted, (matroid.bases, told))

    def test_the_bases_of_a_step_are_told_by_deleting_and_contracting(self):
        for matroid in NO_LOOPS[::30] + [DENSE]:
            sets = chain_of(matroid)
            for inner, outer in zip(sets, sets[1:]):
                one = contracted(deleted(matroid, words.without(matroid.ground, *outer)), inner)
                self.assertEqual(tuple(pack_words.step_bases(matroid, inner, outer)), one.bases)

    def test_quotients_that_stay(self):
        own = by_graph(((0, 1), (0, 1), (1, 2), (1, 2)), FOUR)
        families = (((0,), (7,)), ((8,), (150,)))
        self.assertIs(are_families(own, ((), (0, 7), FOUR), families), False)
        self.assertEqual(chain_of(own), ((), FOUR))
        own = by_graph(((0, 1), (0, 1), (0, 1), (1, 2), (1, 2), (2, 3), (2, 3)), TEN[:7])
        families = (((0,), (1,), (2,)), ((3,), (4,)), ((5,), (6,)))
        self.assertIs(are_families(own, ((), (0, 1, 2), (0, 1, 2, 3, 4), TEN[:7]), families), False)
        self.assertEqual(chain_of(own), ((), (0, 1, 2), TEN[:7]))

    def test_all_tuples_and_families_of_few_elements(self):
        for matroid in without_loops(small.matroids_on_each([(7,), (0, 199), (2, 3, 5)])):
            sets = words.sets_within(matroid.ground)
            for told in pack_words.steps_up(matroid.ground):
                falling = pack_words.is_falling(matroid, told)
                parts = [list(product(sets, repeat=many)) for many in (1, 2, 3)]
                for thing in [(x,) for part in parts[:len(matroid.ground)] for x in part] + [
                        (x, y) for x, y in product(parts[0], repeat=2)]:
                    wanted = falling and pack_words.are_even(matroid, told, thing)
                    self.assertIs(are_families(matroid, told, thing), wanted, (matroid.bases, told, thing))

    def test_all_even_families_count(self):
        for matroid in NO_LOOPS[::9]:
            told = chain_of(matroid)
            families = [pack_words.even_ones(matroid, inner, outer) for inner, outer in zip(told, told[1:])]
            for thing in list(product(*families))[:20]:
                self.assertIs(are_families(matroid, told, thing), True)

    def test_nine_and_ten_elements_are_judged(self):
        for size in (1, 3, 5, 9):
            bases = tuple(combinations(TEN, size))
            many, times = 10 // gcd(10, size), size // gcd(10, size)
            turned = [tuple(sorted((step * size + at) % 10 for at in range(size))) for step in range(many)]
            family = tuple(sorted(turned))
            self.assertTrue(all(sum(x in base for base in family) == times for x in TEN))
            self.assertIs(are_families(uniform(size, TEN), ((), TEN), (family,)), True)
            self.assertIs(are_families(uniform(size, TEN), ((), TEN), (bases[:many],)), bases[:many] == family)

    def test_tuples_that_do_not_fall(self):
        own = uniform(2, (0, 1, 2))
        family = ((0, 1), (0, 2), (1, 2))
        self.assertIs(are_families(own, ((), (0, 1, 2)), (family,)), True)
        for sets in ((), ((),), ((0, 1, 2),), ((0, 1, 2), ()), ((), (), (0, 1, 2)), ((), (0, 1, 2), (0, 1, 2)),
                     ((), (0, 1), (0, 2), (0, 1, 2)), ((), (0, 1), (0, 1, 2)), ((0,), (0, 1, 2)), ((), (0, 1))):
            for thing in ((), (family,), (family, family), (((0,),), ((1,), (2,))), (((0, 1),), ((),))):
                self.assertIs(are_families(own, sets, thing), False, sets)

    def test_sets_that_are_not_in_the_next_one(self):
        # The numbers of elements and the ranks alone fall by 4, 3 and 2 for each rank.
        own = by_graph(((0, 1),) * 4 + ((1, 2),) * 4 + ((2, 3),) * 2, TEN)
        self.assertEqual(chain_of(own), ((), TEN[:8], TEN))
        families = (((0,), (1,), (2,), (3,)), ((4,), (5,), (6,), (7,)), ((8,), (9,)))
        self.assertIs(are_families(own, ((), (0, 1, 2, 3), (1, 2, 3, 4, 5, 6, 7), TEN), families), False)
        for sets in (((), (0, 1), (2,), TEN), ((), (0, 1, 2, 3), (4, 5, 6, 7), TEN), ((), (0, 1, 2, 3), (0, 1), TEN)):
            self.assertIs(are_families(own, sets, families), False)

    def test_any_value(self):
        own, sets = uniform(2, (0, 1, 2)), ((), (0, 1, 2))
        family = ((0, 1), (0, 2), (1, 2))
        bases = wrong.no_sets_within((0, 1, 2)) + [(0,), (0, 1, 2), [1, 2], (2, 1), (1, True)]
        bent = wrong.OTHERS + [(x,) for x in wrong.OTHERS] + [(family[:2] + (x,),) for x in bases]
        bent += [((x,) + family[1:],) for x in bases] + [
            family, [family], (list(family),), (family, family), (family[:2],), (family * 2,), (family[::-1],),
            (((0, 1), (0, 1), (0, 2)),), (((0, 1), (1, 2), (0, 2)),), (((0, 1), (0, 2), (0, 2)),), ((family,),)]
        for thing in bent:
            with self.subTest(kind=type(thing).__name__):
                self.assertIs(are_families(own, sets, thing), False)
        self.assertIs(are_families(thing=(family,), sets=sets, matroid=own), True)

    def test_what_is_no_tuple_of_sets(self):
        own = uniform(2, (0, 1, 2))
        for thing in wrong.OTHERS + [[(), (0, 1, 2)], (0, 1, 2)] + [
                ((), x, (0, 1, 2)) for x in wrong.no_sets_within((0, 1, 2))] + [
                (x, (0, 1, 2)) for x in wrong.no_sets_within((0, 1, 2))] + [
                ((), x) for x in wrong.no_sets_within((0, 1, 2))]:
            with self.subTest(kind=type(thing).__name__):
                self.assertRaises(BadSets, are_families, own, thing, ())
                self.assertRaises(BadSets, are_families, thing=None, sets=thing, matroid=own)


class ErrorsTest(unittest.TestCase):

    def test_what_is_no_matroid(self):
        for thing in small.NO_MATROIDS:
            with self.subTest(kind=type(thing).__name__):
                for function in (greatest_packing, least_bound):
                    self.assertRaises(BadMatroid, function, thing, 1)
                    self.assertRaises(BadMatroid, function, many=None, matroid=thing)
                self.assertRaises(BadMatroid, is_packing, thing, None, ())
                self.assertRaises(BadMatroid, is_bound, thing, None, None, None)
                self.assertRaises(BadMatroid, is_packing, thing=(), many=1, matroid=thing)
                self.assertRaises(BadMatroid, is_bound, thing=(), packing=((),), many=1, matroid=thing)
                for function in (chain_of, even_families):
                    self.assertRaises(BadMatroid, function, thing)
                    self.assertRaises(BadMatroid, function, matroid=thing)
                self.assertRaises(BadMatroid, are_families, thing, None, None)
                self.assertRaises(BadMatroid, are_families, thing=(), sets=((),), matroid=thing)

    def test_what_is_no_number(self):
        for many in NO_NUMBERS:
            with self.subTest(kind=type(many).__name__):
                for matroid in (EMPTY, LOOPS, uniform(5, TEN)):
                    self.assertRaises(BadNumber, greatest_packing, matroid, many)
                    self.assertRaises(BadNumber, least_bound, many=many, matroid=matroid)
                    self.assertRaises(BadNumber, is_packing, matroid, many, ())
                    self.assertRaises(BadNumber, is_bound, matroid, many, None, None)

    def test_loops(self):
        for matroid in (LOOPS, MIXED, uniform(0, TEN), extended(uniform(2, TEN[:9]), 9, ((),)),
                        extended(uniform(2, (1, 2, 3)), 0, ((),)), Matroid((7,), ((),))):
            for call in (chain_of, even_families, lambda told: are_families(told, None, None)):
                with self.assertRaises(Loop) as caught:
                    call(matroid)
                self.assertEqual(caught.exception.element, words.loops(matroid.ground, matroid.bases)[0])

    def test_too_many(self):
        for matroid in (uniform(1, TEN), uniform(5, TEN), uniform(9, TEN[:9]), named("K33")):
            with self.assertRaises(TooMany) as caught:
                even_families(matroid)
            self.assertEqual(caught.exception.most, 8)
        self.assertEqual(len(even_families(matroid=uniform(4, EIGHT))), 1)
        # A loop is told before the number of elements.
        self.assertRaises(Loop, even_families, uniform(0, TEN))

    def test_what_is_handed_in_stays_as_it_was(self):
        one = uniform(1, (0, 1))
        for thing in ([(0,), (1,)], ([0], [1]), [[0]]):
            before = copy.deepcopy(thing)
            self.assertIs(is_packing(one, 2, thing), False)
            self.assertRaises(BadSets, is_bound, one, 2, thing, thing)
            self.assertRaises(BadSets, are_families, one, thing, thing)
            self.assertIs(are_families(one, ((), (0, 1)), thing), False)
            self.assertEqual(thing, before)
        greatest_packing(one, 2), least_bound(one, 2), chain_of(one), even_families(one)
        self.assertEqual((one.ground, one.bases), ((0, 1), ((0,), (1,))))

    def test_equal_calls_return_equal_results(self):
        for matroid in (named("F7"), WHEEL, uniform(3, EIGHT)):
            self.assertEqual(greatest_packing(matroid, 2), greatest_packing(matroid, 2))
            self.assertEqual(even_families(matroid), even_families(Matroid(matroid.ground, matroid.bases)))
