import unittest
from itertools import combinations

from rankwright.errors import BadGround, BadSets, BadTable
from rankwright.matroids import Matroid
from tests import words, wrong

TEN = tuple(range(10))
NO_GROUNDS = wrong.NO_SETS + [tuple(range(11)), tuple(range(189, 200)), tuple(range(20)), ((0, 1),)]


class GroundsAndBasesTest(unittest.TestCase):

    def kept(self, ground, bases):
        matroid = Matroid(ground, bases)
        self.assertEqual((matroid.ground, matroid.bases), (ground, bases))
        self.assertIs(type(matroid.ground), tuple)
        self.assertIs(type(matroid.bases), tuple)
        return matroid

    def test_the_empty_ground(self):
        self.assertEqual(self.kept((), ((),)).rank, 0)

    def test_the_empty_base(self):
        self.assertEqual(self.kept((0, 199), ((),)).rank, 0)

    def test_one_base(self):
        self.assertEqual(self.kept((2, 4, 8), ((2, 8),)).rank, 2)

    def test_the_bounds_of_elements(self):
        self.assertEqual(self.kept((0, 1, 198, 199), ((0, 198), (0, 199), (1, 198), (1, 199))).rank, 2)

    def test_ten_elements(self):
        for size in range(11):
            with self.subTest(size=size):
                self.assertEqual(self.kept(TEN, tuple(combinations(TEN, size))).rank, size)

    def test_arguments_by_name(self):
        matroid = Matroid(bases=((3,), (5,)), ground=(3, 5))
        self.assertEqual((matroid.ground, matroid.bases), ((3, 5), ((3,), (5,))))

    def test_integers_of_other_classes_are_integers(self):
        class Whole(int):
            pass
        self.assertEqual(Matroid((Whole(3),), ((Whole(3),),)), Matroid((3,), ((3,),)))


class WrongValuesTest(unittest.TestCase):

    def test_what_is_no_ground(self):
        for thing in NO_GROUNDS:
            with self.subTest(kind=type(thing).__name__):
                self.assertRaises(BadGround, Matroid, thing, ((),))
                self.assertRaises(BadGround, Matroid, ground=thing, bases=((0,), (1,)))

    def test_ten_elements_are_not_too_many_but_eleven_are(self):
        Matroid(tuple(range(190, 200)), ((),))
        self.assertRaises(BadGround, Matroid, tuple(range(189, 200)), ((),))

    def test_what_is_no_tuple_of_sets(self):
        for ground in ((), (1,), (0, 1, 5), TEN):
            for thing in wrong.no_tuples_of_sets(ground):
                with self.subTest(ground=ground, kind=type(thing).__name__):
                    self.assertRaises(BadSets, Matroid, ground, thing)

    def test_bases_out_of_order_or_doubled(self):
        for bases in (((1,), (0,)), ((0,), (0,)), ((0, 1), (0,)), ((1,), ()), ((0,), (0,), (1,)), ((0,), (1, 0))):
            with self.subTest(bases=bases):
                self.assertRaises(BadSets, Matroid, (0, 1), bases)

    def test_lists_and_truth_values(self):
        for bases in ([(0,)], ([0],), ((True,),), ((0,), (True,)), ((False,),), ((0.0,),)):
            with self.subTest(bases=bases):
                self.assertRaises(BadSets, Matroid, (0, 1), bases)
        for ground in ([0, 1], (False, 1), (0, True), (0.0, 1)):
            with self.subTest(ground=ground):
                self.assertRaises(BadGround, Matroid, ground, ((0,),))

    def test_elements_that_the_ground_does_not_have(self):
        for bases in (((2,),), ((0,), (2,)), ((0, 2),), ((0, 1, 2),), ((200,),)):
            with self.subTest(bases=bases):
                self.assertRaises(BadSets, Matroid, (0, 1), bases)

    def test_faults(self):
        for bases, fault in (
                ((), ("empty",)),
                (((0, 1), (2,)), ("sizes", (0, 1), (2,))),
                (((), (0,)), ("sizes", (), (0,))),
                (((0, 1), (2, 3)), ("exchange", (0, 1), (2, 3), 0)),
                (((0, 1), (0, 2), (1, 3), (2, 3)), None),
                (((0, 1), (0, 2), (2, 3)), ("exchange", (0, 1), (2, 3), 0))):
            with self.subTest(bases=bases):
                if fault is None:
                    Matroid((0, 1, 2, 3), bases)
                    continue
                with self.assertRaises(BadTable) as caught:
                    Matroid((0, 1, 2, 3), bases)
                self.assertEqual(caught.exception.fault, fault)

    def test_the_fault_is_that_of_the_words(self):
        for bases in words.families(words.sets_within((1, 4, 6))):
            fault = words.fault("bases", (1, 4, 6), bases)
            with self.subTest(bases=bases):
                if fault is None:
                    self.assertEqual(Matroid((1, 4, 6), bases).bases, bases)
                else:
                    with self.assertRaises(BadTable) as caught:
                        Matroid((1, 4, 6), bases)
                    self.assertEqual(caught.exception.fault, fault)

    def test_the_order_of_the_errors(self):
        self.assertRaises(BadGround, Matroid, [0, 1], [(0,)])
        self.assertRaises(BadGround, Matroid, (1, 0), ())
        self.assertRaises(BadGround, Matroid, tuple(range(11)), ((0,), (0, 1)))
        self.assertRaises(BadGround, Matroid, None, None)
        self.assertRaises(BadSets, Matroid, (0, 1), ((0,), (0, 1), (7,)))
        self.assertRaises(BadSets, Matroid, (0, 1, 2, 3), ((0, 1), (2, 3), [0, 2]))
        self.assertRaises(BadSets, Matroid, (0, 1, 2, 3), ((2, 3), (0, 1)))

    def test_ten_elements_with_a_fault(self):
        all_bases = tuple(combinations(TEN, 5))
        self.assertEqual(Matroid(TEN, all_bases[:-1]).rank, 5)
        bases = tuple(base for base in all_bases if base not in ((0, 1, 2, 3, 4), (0, 1, 2, 3, 5)))
        with self.assertRaises(BadTable) as caught:
            Matroid(TEN, bases)
        self.assertEqual(caught.exception.fault, words.fault("bases", TEN, bases))
