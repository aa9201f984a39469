import copy
import unittest
from itertools import combinations

from rankwright.errors import BadElement, BadFlats, BadMatroid, BadSet, NotFree, NotRelaxable, TooMany
from rankwright.extensions import cut_of, cut_of_flats, cuts_of, extended, relaxed, tightened
from rankwright.logs import deleted
from rankwright.makers import named, uniform
from rankwright.matroids import Matroid, table_of
from tests import making_words, small, words, wrong
from tests.small import EMPTY, FIVE, FOUR, LOOPS, MIXED, TEN

NINE = tuple(range(9))
# How many matroids there are on so many given elements (a known sequence).
HOW_MANY = [1, 2, 5, 16, 68, 406, 3807]


def no_tuples_of_flats(matroid):
    """None of these is an ascending tuple of different flats of a matroid with at least two flats."""
    others = [members for members in words.sets_within(matroid.ground) if members not in matroid.flats]
    pair = matroid.flats[:2]
    return (wrong.no_tuples_of_sets(matroid.ground) + [(members,) for members in others]
            + [tuple(sorted((members, matroid.ground))) for members in others]
            + [list(pair), pair[::-1], pair[:1] * 2, (list(pair[0]),), pair[0] + (0,), [list(pair[0])]])


class CutsTest(unittest.TestCase):

    def test_all_cuts_of_small_matroids(self):
        for matroid in small.matroids_on_each(small.GROUNDS + [FOUR]):
            self.assertEqual(cuts_of(matroid), making_words.cuts(matroid.ground, matroid.bases), matroid.bases)

    def test_the_cuts_of_some_matroids_of_five(self):
        for matroid in small.matroids_on(FIVE):
            if len(matroid.flats) <= 12:
                self.assertEqual(cuts_of(matroid), making_words.cuts(FIVE, matroid.bases), matroid.bases)

    def test_there_are_as_many_as_there_are_matroids_of_one_element_more(self):
        for many in range(6):
            matroids = small.matroids_on(tuple(range(many)))
            self.assertEqual(sum(len(cuts_of(matroid)) for matroid in matroids), HOW_MANY[many + 1])

    def test_all_sets_of_flats_of_small_matroids(self):
        for matroid in small.matroids_on_each(small.GROUNDS):
            cuts = making_words.cuts(matroid.ground, matroid.bases)
            for flats in words.families(matroid.flats):
                wanted = making_words.smallest_cut(cuts, flats)
                self.assertEqual(cut_of_flats(matroid, flats), wanted, (matroid.bases, flats))

    def test_some_sets_of_flats_of_four_and_five_elements(self):
        for matroid in small.matroids_on(FOUR) + small.matroids_on(FIVE)[::9]:
            cuts = cuts_of(matroid)
            chosen = list(combinations(matroid.flats, 1)) + list(combinations(matroid.flats, 2))
            for flats in chosen + list(combinations(matroid.flats, 3))[::11]:
                wanted = making_words.smallest_cut(cuts, flats)
                self.assertEqual(cut_of_flats(matroid, flats), wanted, (matroid.bases, flats))

    def test_no_flats_and_the_least_flat(self):
        for matroid in (EMPTY, LOOPS, MIXED, uniform(3, NINE), named("F7"), uniform(10, TEN)):
            self.assertEqual(cut_of_flats(matroid, ()), ())
            self.assertEqual(cut_of_flats(matroid, (matroid.closure_of(()),)), matroid.flats)
            self.assertEqual(cut_of_flats(matroid, (matroid.ground,)), (matroid.ground,))

    def test_large_matroids(self):
        free = uniform(10, TEN)
        above = tuple(flat for flat in free.flats if words.is_within((2, 5), flat))
        self.assertEqual(cut_of_flats(free, ((0, 1, 2, 5, 8), (2, 3, 4, 5, 7), (2, 4, 5, 8))), above)
        self.assertEqual(cut_of_flats(uniform(5, TEN), ((0, 1, 2, 3), (4, 5, 6, 7))),
                         ((0, 1, 2, 3), TEN, (4, 5, 6, 7)))
        self.assertEqual(cut_of_flats(uniform(5, TEN), ((0, 1, 2, 3), (0, 1, 4, 6), (2, 3, 4, 5))),
                         ((0, 1, 2, 3), TEN, (0, 1, 4, 6), (2, 3, 4, 5)))
        self.assertEqual(len(cut_of_flats(uniform(5, TEN), ((0, 1, 2, 3), (1, 2, 3, 4)))), 1 + 7 + 1)

    def test_pairs_of_flats_of_named_matroids(self):
        for name, step in (("F7", 5), ("F7*", 43), ("K33", 1709), ("K5", 307)):
            matroid = named(name)
            for flats in list(combinations(matroid.flats, 2))[::step]:
                wanted = making_words.cut_in_rounds(matroid.ground, matroid.bases, flats)
                self.assertEqual(cut_of_flats(matroid, flats), wanted, (name, flats))

    def test_arguments_by_name(self):
        self.assertEqual(cut_of_flats(flats=((),), matroid=EMPTY), ((),))
        self.assertEqual(cuts_of(matroid=EMPTY), ((), ((),)))

    def test_five_elements_but_not_six(self):
        self.assertEqual(len(cuts_of(uniform(5, FIVE))), 33)
        for many in (6, 7, 10):
            for size in (0, 1, many):
                with self.assertRaises(TooMany) as caught:
                    cuts_of(uniform(size, tuple(range(many))))
                self.assertEqual(caught.exception.most, 5)

    def test_what_is_no_matroid(self):
        for thing in small.NO_MATROIDS:
            with self.subTest(kind=type(thing).__name__):
                self.assertRaises(BadMatroid, cuts_of, thing)
                self.assertRaises(BadMatroid, cuts_of, matroid=thing)
                self.assertRaises(BadMatroid, cut_of_flats, thing, ())
                self.assertRaises(BadMatroid, cut_of_flats, flats=None, matroid=thing)

    def test_what_is_no_tuple_of_flats(self):
        for matroid in (MIXED, uniform(2, (0, 1, 2)), uniform(1, (4,))):
            for thing in no_tuples_of_flats(matroid):
                with self.subTest(bases=matroid.bases, kind=type(thing).__name__):
                    self.assertRaises(BadFlats, cut_of_flats, matroid, thing)
                    self.assertRaises(BadFlats, cut_of_flats, flats=thing, matroid=matroid)
        self.assertRaises(BadFlats, cut_of_flats, LOOPS, ((),))
        self.assertRaises(BadFlats, cut_of_flats, uniform(2, (0, 1, 2)), ((0, 1),))
        self.assertRaises(BadFlats, cut_of_flats, uniform(2, (0, 1, 2)), ((), (True,)))


class ExtendedTest(unittest.TestCase):

    def compared(self, matroid, element, flats, cut):
        made = extended(matroid, element, flats)
        wanted = making_words.extended_ranks(matroid.ground, matroid.bases, element, cut)
        self.assertIs(type(made), Matroid)
        self.assertEqual(made.ground, words.together(matroid.ground, (element,)))
        self.assertEqual(words.ranks(made.ground, made.bases), wanted, (matroid.bases, flats))
        self.assertEqual(deleted(made, (element,)), matroid)
        self.assertEqual(cut_of(made, element), cut)

    def test_all_cuts_of_small_matroids(self):
        for ground in small.GROUNDS + [FOUR]:
            for matroid in small.matroids_on(ground):
                for cut in making_words.cuts(ground, matroid.bases):
                    self.compared(matroid, 4, cut, cut)

    def test_all_sets_of_flats_of_small_matroids(self):
        for ground in small.GROUNDS:
            for matroid in small.matroids_on(ground):
                cuts = making_words.cuts(ground, matroid.bases)
                for flats in words.families(matroid.flats):
                    self.compared(matroid, 6, flats, making_words.smallest_cut(cuts, flats))

    def test_different_cuts_make_all_matroids_of_one_element_more(self):
        for many in range(5):
            made = [extended(matroid, many, cut) for matroid in small.matroids_on(tuple(range(many)))
                    for cut in cuts_of(matroid)]
            self.assertEqual(sorted(matroid.bases for matroid in made), sorted(words.all_bases(tuple(range(many + 1)))))

    def test_elements_ahead_between_and_behind(self):
        for element in (0, 4, 198, 199):
            matroid = uniform(2, (1, 3, 5, 197))
            for flats in ((), ((3,),), ((1, 3, 5, 197),), ((),)):
                cut = cut_of_flats(matroid, flats)
                self.compared(matroid, element, flats, cut)

    def test_a_coloop_and_a_loop(self):
        for matroid in small.matroids_on_each(small.GROUNDS) + [MIXED]:
            self.assertEqual(extended(matroid, 6, ()).coloops, words.together(matroid.coloops, (6,)))
            self.assertEqual(extended(matroid, 6, (matroid.closure_of(()),)).loops, words.together(matroid.loops, (6,)))

    def test_up_to_ten_elements(self):
        self.assertEqual(extended(uniform(4, NINE), 9, (NINE,)), uniform(4, TEN))
        self.assertEqual(extended(uniform(9, NINE), 9, ()), uniform(10, TEN))
        self.compared(uniform(4, NINE), 50, ((0, 1, 2), (0, 4, 5), (3, 4, 6)),
                      ((0, 1, 2), NINE, (0, 4, 5), (3, 4, 6)))

    def test_f7_from_what_is_left_of_it(self):
        rest = deleted(named("F7"), (6,))
        self.assertEqual(extended(rest, 6, ((0, 5), (1, 4), (2, 3))), named("F7"))
        self.assertEqual(cut_of(named("F7"), 6), ((0, 1, 2, 3, 4, 5), (0, 5), (1, 4), (2, 3)))

    def test_arguments_by_name(self):
        self.assertEqual(extended(flats=(), element=7, matroid=LOOPS).bases, ((7,),))

    def test_what_is_no_matroid(self):
        for thing in small.NO_MATROIDS:
            with self.subTest(kind=type(thing).__name__):
                self.assertRaises(BadMatroid, extended, thing, 50, ())
                self.assertRaises(BadMatroid, extended, flats=None, element=None, matroid=thing)

    def test_what_is_no_new_element(self):
        for matroid in (MIXED, uniform(5, TEN), EMPTY, uniform(1, (0, 1))):
            for element in wrong.NO_ELEMENTS + list(matroid.ground):
                with self.subTest(ground=matroid.ground, kind=type(element).__name__):
                    self.assertRaises(BadElement, extended, matroid, element, ())
                    self.assertRaises(BadElement, extended, flats=None, element=element, matroid=matroid)

    def test_what_is_no_tuple_of_flats(self):
        for matroid in (MIXED, uniform(2, (0, 1, 2)), uniform(1, (4,))):
            for thing in no_tuples_of_flats(matroid):
                with self.subTest(bases=matroid.bases, kind=type(thing).__name__):
                    self.assertRaises(BadFlats, extended, matroid, 50, thing)
                    self.assertRaises(BadFlats, extended, flats=thing, element=50, matroid=matroid)

    def test_too_many(self):
        for matroid in (uniform(0, TEN), uniform(5, TEN), uniform(10, TEN)):
            for flats in ((), (TEN,), matroid.flats):
                with self.assertRaises(TooMany) as caught:
                    extended(matroid, 10, flats)
                self.assertEqual(caught.exception.most, 10)

    def test_the_order_of_the_errors(self):
        self.assertRaises(BadMatroid, extended, None, None, None)
        self.assertRaises(BadElement, extended, uniform(5, TEN), 3, [()])
        self.assertRaises(BadElement, extended, uniform(5, TEN), True, None)
        self.assertRaises(BadFlats, extended, uniform(5, TEN), 10, [()])
        self.assertRaises(BadFlats, extended, uniform(5, TEN), 10, ((0, 1, 2, 3, 4),))
        self.assertRaises(TooMany, extended, uniform(5, TEN), 10, ((0, 1, 2, 3),))

    def test_what_is_handed_in_stays_as_it_was(self):
        matroid = uniform(2, (1, 2, 3))
        for flats in ([(1,)], [[1]], ([1],)):
            before = copy.deepcopy(flats)
            self.assertRaises(BadFlats, extended, matroid, 4, flats)
            self.assertRaises(BadFlats, cut_of_flats, matroid, flats)
            self.assertEqual(flats, before)
        extended(matroid, 4, ((1,),)), cut_of(matroid, 1), cuts_of(matroid), cut_of_flats(matroid, ((1,),))
        tightened(matroid, (1, 2))
        self.assertRaises(NotRelaxable, relaxed, matroid, (1, 2, 3))
        self.assertEqual((matroid.ground, matroid.bases), ((1, 2, 3), ((1, 2), (1, 3), (2, 3))))
        self.assertEqual(table_of(matroid, "ranks"), words.ranks((1, 2, 3), ((1, 2), (1, 3), (2, 3))))


class CutOfTest(unittest.TestCase):

    def test_all_small_matroids(self):
        for matroid in small.matroids_on_each(small.GROUNDS + [FOUR, FIVE]):
            for element in matroid.ground:
                rest = deleted(matroid, (element,))
                cut = cut_of(matroid, element)
                self.assertEqual(cut, self.wanted(matroid.bases, rest, element), (matroid.bases, element))
                self.assertEqual(extended(rest, element, cut), matroid)

    def wanted(self, bases, rest, element):
        """The flats of the rest whose rank the element does not raise."""
        return tuple(flat for flat in words.flats(rest.ground, rest.bases)
                     if words.rank(bases, words.together(flat, (element,))) == words.rank(bases, flat))

    def test_ten_elements(self):
        rest = TEN[:4] + TEN[5:]
        for size in range(10):
            self.assertEqual(cut_of(uniform(size, TEN), 4), (rest,))
        self.assertEqual(cut_of(uniform(10, TEN), 4), ())

    def test_arguments_by_name(self):
        self.assertEqual(cut_of(element=5, matroid=LOOPS), ((4,),))

    def test_what_is_no_matroid(self):
        for thing in small.NO_MATROIDS:
            with self.subTest(kind=type(thing).__name__):
                self.assertRaises(BadMatroid, cut_of, thing, 4)
                self.assertRaises(BadMatroid, cut_of, element=None, matroid=thing)

    def test_what_is_no_element_of_the_ground(self):
        for matroid in (MIXED, EMPTY, uniform(1, (0, 1))):
            others = [x for x in range(200) if x not in matroid.ground]
            for element in wrong.NO_ELEMENTS + others:
                with self.subTest(ground=matroid.ground, kind=type(element).__name__):
                    self.assertRaises(BadElement, cut_of, matroid, element)
                    self.assertRaises(BadElement, cut_of, element=element, matroid=matroid)


class RelaxedAndTightenedTest(unittest.TestCase):

    def test_relaxing_in_all_small_matroids(self):
        for matroid in small.matroids_on_each(small.GROUNDS + [FOUR, FIVE]):
            ground, bases = matroid.ground, matroid.bases
            for members in words.sets_within(ground):
                if not making_words.can_be_relaxed(ground, bases, members):
                    self.assertRaises(NotRelaxable, relaxed, matroid, members)
                    continue
                made = relaxed(matroid, members)
                self.assertIs(type(made), Matroid)
                self.assertEqual((made.ground, made.bases), (ground, tuple(sorted(bases + (members,)))))
                self.assertEqual(tightened(made, members), matroid)
                self.assertEqual(made.dual(), relaxed(matroid.dual(), words.without(ground, *members)))

    def test_tightening_in_all_small_matroids(self):
        for matroid in small.matroids_on_each(small.GROUNDS + [FOUR, FIVE]):
            ground, bases = matroid.ground, matroid.bases
            for base in bases:
                if not making_words.is_free(ground, bases, base):
                    self.assertRaises(NotFree, tightened, matroid, base)
                    continue
                made = tightened(matroid, base)
                self.assertIs(type(made), Matroid)
                self.assertEqual((made.ground, made.bases), (ground, tuple(other for other in bases if other != base)))
                self.assertEqual(relaxed(made, base), matroid)

    def test_f7(self):
        f7 = named("F7")
        for line in ((0, 1, 2), (2, 4, 5)):
            made = relaxed(f7, line)
            self.assertEqual(len(made.bases), 29)
            self.assertEqual(tightened(made, line), f7)
            self.assertEqual(relaxed(f7.dual(), words.without(f7.ground, *line)), made.dual())
            self.assertRaises(NotRelaxable, relaxed, made, line)
        self.assertRaises(NotFree, tightened, f7, (0, 1, 3))
        self.assertRaises(NotRelaxable, relaxed, f7, (0, 1, 3, 6))
        self.assertRaises(NotRelaxable, relaxed, f7, (0, 1))

    def test_a_circuit_alone_or_a_hyperplane_alone(self):
        matroid = Matroid((0, 1, 2, 3), ((0, 1), (0, 2), (0, 3), (1, 2), (1, 3)))
        self.assertIn((0, 1, 2), matroid.circuits)
        self.assertRaises(NotRelaxable, relaxed, matroid, (0, 1, 2))
        self.assertIn((0,), matroid.hyperplanes)
        self.assertRaises(NotRelaxable, relaxed, matroid, (0,))
        self.assertEqual(relaxed(matroid, (2, 3)), uniform(2, (0, 1, 2, 3)))

    def test_ten_elements(self):
        matroid = uniform(5, TEN)
        made = tightened(matroid, TEN[:5])
        self.assertEqual(made.bases, tuple(combinations(TEN, 5))[1:])
        self.assertEqual(relaxed(made, TEN[:5]), matroid)
        self.assertRaises(NotFree, tightened, made, (0, 1, 2, 3, 5))
        self.assertEqual(tightened(made, TEN[5:]).bases, tuple(combinations(TEN, 5))[1:-1])

    def test_empty_bases_and_whole_ones_are_not_free(self):
        for matroid in (EMPTY, LOOPS, uniform(0, TEN), uniform(1, (4,)), uniform(10, TEN)):
            self.assertRaises(NotFree, tightened, matroid, matroid.bases[0])

    def test_arguments_by_name(self):
        matroid = uniform(1, (4, 6))
        self.assertEqual(tightened(base=(4,), matroid=matroid).bases, ((6,),))
        self.assertEqual(relaxed(members=(4,), matroid=Matroid((4, 6), ((6,),))), matroid)

    def test_what_is_no_matroid(self):
        for thing in small.NO_MATROIDS:
            with self.subTest(kind=type(thing).__name__):
                self.assertRaises(BadMatroid, relaxed, thing, (0,))
                self.assertRaises(BadMatroid, relaxed, members=None, matroid=thing)
                self.assertRaises(BadMatroid, tightened, thing, (0,))
                self.assertRaises(BadMatroid, tightened, base=None, matroid=thing)

    def test_what_is_no_set_or_no_base(self):
        for matroid in (MIXED, EMPTY, LOOPS, uniform(1, (0, 1))):
            others = [members for members in words.sets_within(matroid.ground) if members not in matroid.bases]
            for thing in wrong.no_sets_within(matroid.ground):
                with self.subTest(bases=matroid.bases, kind=type(thing).__name__):
                    self.assertRaises(BadSet, relaxed, matroid, thing)
                    self.assertRaises(BadSet, relaxed, members=thing, matroid=matroid)
            for thing in wrong.no_sets_within(matroid.ground) + others:
                with self.subTest(bases=matroid.bases, kind=type(thing).__name__):
                    self.assertRaises(BadSet, tightened, matroid, thing)
                    self.assertRaises(BadSet, tightened, base=thing, matroid=matroid)

    def test_truth_values_and_lists(self):
        matroid = Matroid((0, 1), ((1,),))
        for thing in ((False,), [0], (0.0,), 0):
            self.assertRaises(BadSet, relaxed, matroid, thing)
        self.assertEqual(relaxed(matroid, (0,)), uniform(1, (0, 1)))
        for thing in ((True,), [1], (1.0,), 1):
            self.assertRaises(BadSet, tightened, uniform(1, (0, 1)), thing)

    def test_what_is_handed_in_stays_as_it_was(self):
        members = [0]
        self.assertRaises(BadSet, relaxed, uniform(1, (0, 1)), members)
        self.assertRaises(BadSet, tightened, uniform(1, (0, 1)), members)
        self.assertEqual(members, [0])
