import unittest
from itertools import combinations

from rankwright.errors import BadElement, BadSet
from rankwright.matroids import Matroid
from tests import words, wrong

# How many matroids there are on so many given elements (a known sequence).
HOW_MANY = [1, 2, 5, 16, 68, 406]
GROUNDS = [(), (7,), (0, 199), (2, 3, 5), (0, 7, 8, 150), (1, 10, 100, 101, 199)]


def uniform(size, ground):
    return Matroid(ground, tuple(combinations(ground, size)))


def cycle_matroid_of_k5():
    edges = list(combinations(range(5), 2))

    def is_tree(chosen):
        reached = {0}
        for _ in range(4):
            reached |= {v for at in chosen for v in edges[at] if set(edges[at]) & reached}
        return len(reached) == 5
    return Matroid(tuple(range(10)), tuple(base for base in combinations(range(10), 4) if is_tree(base)))


class SmallMatroidsTest(unittest.TestCase):

    @classmethod
    def setUpClass(cls):
        cls.matroids = [Matroid(ground, bases) for ground in GROUNDS for bases in words.all_bases(ground)]

    def each(self):
        return [(matroid, matroid.ground, matroid.bases) for matroid in self.matroids]

    def test_there_are_as_many_as_are_known(self):
        self.assertEqual([sum(m.ground == ground for m in self.matroids) for ground in GROUNDS], HOW_MANY)

    def test_rank(self):
        for matroid, ground, bases in self.each():
            with self.subTest(ground=ground, bases=bases):
                self.assertEqual(matroid.rank, len(bases[0]))

    def test_rank_of_and_is_independent(self):
        for matroid, ground, bases in self.each():
            with self.subTest(ground=ground, bases=bases):
                for members in words.sets_within(ground):
                    self.assertEqual(matroid.rank_of(members), words.rank(bases, members))
                    self.assertIs(matroid.is_independent(members), words.rank(bases, members) == len(members))

    def test_closure_of(self):
        for matroid, ground, bases in self.each():
            with self.subTest(ground=ground, bases=bases):
                for members in words.sets_within(ground):
                    self.assertEqual(matroid.closure_of(members), words.closure(ground, bases, members))

    def test_circuits_and_circuit_in(self):
        for matroid, ground, bases in self.each():
            with self.subTest(ground=ground, bases=bases):
                circuits = words.circuits(ground, bases)
                self.assertEqual(matroid.circuits, circuits)
                for members in words.sets_within(ground):
                    inside = [circuit for circuit in circuits if words.is_within(circuit, members)]
                    self.assertEqual(matroid.circuit_in(members), min(inside, default=None))

    def test_flats_and_hyperplanes(self):
        for matroid, ground, bases in self.each():
            with self.subTest(ground=ground, bases=bases):
                self.assertEqual(matroid.flats, words.flats(ground, bases))
                self.assertEqual(matroid.hyperplanes, words.hyperplanes(ground, bases))

    def test_loops_and_coloops(self):
        for matroid, ground, bases in self.each():
            with self.subTest(ground=ground, bases=bases):
                self.assertEqual(matroid.loops, words.loops(ground, bases))
                self.assertEqual(matroid.coloops, words.coloops(ground, bases))

    def test_fundamental(self):
        for matroid, ground, bases in self.each():
            with self.subTest(ground=ground, bases=bases):
                circuits = words.circuits(ground, bases)
                for base in bases:
                    for element in words.without(ground, *base):
                        both = words.together(base, (element,))
                        only, = [circuit for circuit in circuits if words.is_within(circuit, both)]
                        self.assertEqual(matroid.fundamental(base, element), only)

    def test_dual(self):
        for matroid, ground, bases in self.each():
            with self.subTest(ground=ground, bases=bases):
                dual = matroid.dual()
                self.assertIsInstance(dual, Matroid)
                self.assertEqual((dual.ground, dual.bases), (ground, words.dual_bases(ground, bases)))
                self.assertEqual(dual.dual(), matroid)

    def test_equality(self):
        for matroid, ground, bases in self.each():
            with self.subTest(ground=ground, bases=bases):
                self.assertTrue(matroid == Matroid(ground, bases))
                self.assertFalse(matroid != Matroid(ground, bases))
                self.assertEqual(sum(other == matroid for other in self.matroids), 1)


class LargerMatroidsTest(unittest.TestCase):

    def test_ten_elements(self):
        matroid = cycle_matroid_of_k5()
        ground, bases = matroid.ground, matroid.bases
        self.assertEqual([len(bases), len(matroid.circuits), len(matroid.flats), len(matroid.hyperplanes)],
                         [125, 37, 52, 15])
        for members in words.sets_within(ground)[::7]:
            self.assertEqual(matroid.rank_of(members), words.rank(bases, members))
            self.assertEqual(matroid.closure_of(members), words.closure(ground, bases, members))
        self.assertEqual(matroid.dual().bases, words.dual_bases(ground, bases))

    def test_uniform_ones_of_ten_elements(self):
        ground = tuple(range(100, 110))
        for size in (0, 1, 5, 9, 10):
            with self.subTest(size=size):
                matroid = uniform(size, ground)
                self.assertEqual(matroid.circuits, tuple(combinations(ground, size + 1)))
                self.assertEqual(matroid.hyperplanes, tuple(combinations(ground, size - 1)) if size else ())
                self.assertEqual(matroid.loops, ground if size == 0 else ())
                self.assertEqual(matroid.coloops, ground if size == 10 else ())
                self.assertEqual(matroid.dual(), uniform(10 - size, ground))

    def test_rank_zero(self):
        matroid = Matroid((4, 5), ((),))
        self.assertEqual((matroid.rank, matroid.circuits, matroid.flats), (0, ((4,), (5,)), ((4, 5),)))
        self.assertEqual((matroid.hyperplanes, matroid.loops, matroid.coloops), ((), (4, 5), ()))

    def test_the_empty_ground(self):
        matroid = Matroid((), ((),))
        self.assertEqual((matroid.rank, matroid.circuits, matroid.flats), (0, (), ((),)))
        self.assertEqual((matroid.hyperplanes, matroid.loops, matroid.coloops), ((), (), ()))
        self.assertEqual((matroid.rank_of(()), matroid.closure_of(()), matroid.circuit_in(())), (0, (), None))
        self.assertIs(matroid.is_independent(()), True)
        self.assertEqual(matroid.dual(), matroid)


class WrongValuesTest(unittest.TestCase):

    def setUp(self):
        self.matroid = Matroid((0, 1, 4, 199), ((0, 1), (0, 4), (1, 4)))

    def test_what_is_no_set_within_the_ground(self):
        for matroid in (self.matroid, Matroid((), ((),)), uniform(3, tuple(range(10)))):
            for thing in wrong.no_sets_within(matroid.ground):
                for method in (matroid.rank_of, matroid.closure_of, matroid.is_independent, matroid.circuit_in):
                    with self.subTest(method=method.__name__, kind=type(thing).__name__):
                        self.assertRaises(BadSet, method, thing)
                        self.assertRaises(BadSet, method, members=thing)

    def test_what_is_no_base(self):
        sets = [(), (0,), (0, 199), (0, 1, 4), (0, 1, 4, 199), (0, 2)]
        for thing in wrong.no_sets_within(self.matroid.ground) + sets:
            with self.subTest(kind=type(thing).__name__):
                self.assertRaises(BadSet, self.matroid.fundamental, thing, 199)
                self.assertRaises(BadSet, self.matroid.fundamental, base=thing, element=199)

    def test_a_truth_value_makes_no_base(self):
        self.assertRaises(BadSet, self.matroid.fundamental, (0, True), 4)
        self.assertRaises(BadSet, self.matroid.fundamental, (False, 1), 4)
        self.assertRaises(BadSet, self.matroid.fundamental, (0.0, 1), 4)
        self.assertRaises(BadSet, self.matroid.fundamental, [0, 1], 4)

    def test_what_is_no_element_outside(self):
        for thing in wrong.NO_ELEMENTS + [0, 4, 2, 198]:
            with self.subTest(kind=type(thing).__name__):
                self.assertRaises(BadElement, self.matroid.fundamental, (0, 4), thing)
                self.assertRaises(BadElement, self.matroid.fundamental, base=(0, 4), element=thing)

    def test_the_base_is_checked_first(self):
        self.assertRaises(BadSet, self.matroid.fundamental, (0, 199), 0)
        self.assertRaises(BadSet, self.matroid.fundamental, None, None)

    def test_other_values_are_not_equal(self):
        bases = self.matroid.bases
        others = [(self.matroid.ground, bases), bases, Matroid((0, 1, 4), bases), Matroid((0, 1, 4, 199), bases[:2]),
                  wrong.Anything(), wrong.Nothing(), None, True, 0, "", Matroid]
        for other in others:
            with self.subTest(kind=type(other).__name__):
                self.assertIs(self.matroid == other, False)
                self.assertIs(self.matroid != other, True)


class KeptTest(unittest.TestCase):

    def test_answers_are_the_same_each_time(self):
        one, other = cycle_matroid_of_k5(), cycle_matroid_of_k5()
        for _ in range(2):
            for name in ("rank", "circuits", "flats", "hyperplanes", "loops", "coloops"):
                self.assertEqual(getattr(one, name), getattr(other, name))
        self.assertEqual(one, other)

    def test_an_error_changes_nothing(self):
        matroid = Matroid((0, 1, 4), ((0, 1), (0, 4)))
        for call in (lambda: matroid.rank_of([0]), lambda: matroid.closure_of((2,)),
                     lambda: matroid.circuit_in(None), lambda: matroid.fundamental((0, 1), 1)):
            self.assertRaises(ValueError, call)
        self.assertEqual((matroid.ground, matroid.bases, matroid.circuits, matroid.flats),
                         ((0, 1, 4), ((0, 1), (0, 4)), ((1, 4),), ((), (0,), (0, 1, 4), (1, 4))))

    def test_answers_are_tuples_and_plain_truth_values(self):
        matroid = Matroid((0, 1, 4), ((0, 1), (0, 4)))
        for answer in (matroid.circuits, matroid.flats, matroid.hyperplanes, matroid.loops, matroid.coloops,
                       matroid.circuits[0], matroid.flats[0], matroid.hyperplanes[0], matroid.closure_of((1,)),
                       matroid.circuit_in((1, 4)), matroid.fundamental((0, 1), 4)):
            self.assertIs(type(answer), tuple)
        self.assertIs(type(matroid.rank), int)
        self.assertIs(type(matroid.rank_of((0,))), int)
        self.assertIs(type(matroid.is_independent((0,))), bool)
