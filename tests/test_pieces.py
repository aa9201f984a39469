import copy
import time
import unittest
from itertools import combinations, permutations, product

from rankwright.errors import BadMatroid, BadPieces, Unlike
from rankwright.extensions import extended
from rankwright.makers import NAMES, by_graph, by_matrix, named, summed, uniform
from rankwright.matroids import Matroid
from rankwright.pieces import good_splits_of, joined_of, parts_of, pieces_of, splits_of, two_sum
from tests import piece_words, small, words, wrong
from tests.small import EMPTY, FIVE, FOUR, LOOPS, MIXED, TEN

TREE = by_graph(((0, 1), (1, 2), (2, 3), (3, 4), (4, 5), (0, 5), (0, 2), (2, 4), (0, 4), (0, 2)), TEN)
RING = by_graph(((0, 1), (1, 2), (2, 3), (3, 4), (4, 5), (0, 5), (0, 1), (2, 3), (4, 5), (4, 5)), TEN)
WHEEL = by_graph(((0, 1), (0, 2), (0, 3), (0, 4), (1, 2), (2, 3), (3, 4), (1, 4)), TEN[:8])
PARALLEL = by_graph(((0, 1), (0, 1), (0, 2), (0, 2), (1, 2), (1, 3), (2, 3)), (1, 4, 6, 30, 31, 32, 149))


def renamed(matroid, names):
    to = dict(zip(matroid.ground, names))
    bases = tuple(sorted(tuple(sorted(to[x] for x in base)) for base in matroid.bases))
    return Matroid(tuple(sorted(names)), bases)


def with_one_part(matroids):
    return [matroid for matroid in matroids if len(piece_words.parts(matroid.ground, matroid.bases)) == 1]


ALL_SMALL = small.matroids_on_each(small.GROUNDS + [FOUR, FIVE])
ONE_PART = with_one_part(ALL_SMALL)
SUMS = [two_sum(named("U24"), renamed(named("U24"), (3, 10, 11, 12))),
        two_sum(renamed(named("F7"), (9, 20, 21, 22, 23, 24, 25)), uniform(1, (9, 30, 31, 40))),
        two_sum(renamed(named("F7*"), (9, 20, 21, 22, 23, 24, 25)), uniform(3, (9, 30, 31, 40))),
        two_sum(two_sum(uniform(2, (0, 1, 2, 3)), uniform(2, (3, 4, 5, 6))), uniform(2, (6, 7, 8)))]
GREAT = SUMS + [TREE, RING, WHEEL, PARALLEL, TREE.dual(), RING.dual(), PARALLEL.dual()] + [
    named(name) for name in NAMES] + [uniform(size, TEN) for size in range(1, 10)]


class PartsTest(unittest.TestCase):

    def compared(self, matroid):
        found = parts_of(matroid)
        self.assertEqual(found, piece_words.parts(matroid.ground, matroid.bases), matroid.bases)
        self.assertEqual(tuple(sorted(sum(found, ()))), matroid.ground)

    def test_all_small_matroids(self):
        for matroid in ALL_SMALL + [MIXED]:
            self.compared(matroid)

    def test_the_matroid_is_the_sum_of_what_is_left_on_its_parts(self):
        for matroid in ALL_SMALL[::6] + [MIXED]:
            joined = EMPTY
            for part in parts_of(matroid):
                bases = {words.common(base, part) for base in matroid.bases}
                joined = summed(joined, Matroid(part, tuple(sorted(bases))))
            self.assertEqual(joined, matroid)

    def test_great_ones(self):
        for matroid in GREAT:
            self.assertEqual(parts_of(matroid), (matroid.ground,))
        self.assertEqual(parts_of(summed(uniform(2, (0, 4, 8)), uniform(1, (2, 5)))), ((0, 4, 8), (2, 5)))
        for size in (0, 10):
            self.assertEqual(parts_of(uniform(size, TEN)), tuple((x,) for x in TEN))

    def test_edges(self):
        self.assertEqual(parts_of(EMPTY), ())
        self.assertEqual(parts_of(matroid=LOOPS), ((4,), (5,)))
        self.assertEqual(parts_of(Matroid((7,), ((7,),))), ((7,),))
        self.assertEqual(parts_of(MIXED), ((3,), (4, 7), (8,), (9,)))


class SplitsTest(unittest.TestCase):

    def compared(self, matroid):
        self.assertEqual(splits_of(matroid), piece_words.splits(matroid.ground, matroid.bases), matroid.bases)
        self.assertEqual(good_splits_of(matroid), piece_words.good_splits(matroid.ground, matroid.bases), matroid.bases)

    def test_all_small_matroids(self):
        for matroid in ONE_PART:
            self.compared(matroid)

    def test_greater_ones(self):
        for matroid in [WHEEL, PARALLEL, PARALLEL.dual(), named("F7"), named("F7*")] + SUMS[:1] + [
                uniform(size, TEN[:7]) for size in range(1, 7)]:
            self.compared(matroid)

    def test_ten_elements(self):
        start = time.perf_counter()
        self.assertEqual(len(splits_of(uniform(1, TEN))), 2 ** 9 - 1 - 9 - 1)
        self.assertEqual(len(splits_of(uniform(9, TEN))), 2 ** 9 - 1 - 9 - 1)
        for size in range(1, 10):
            self.assertEqual(good_splits_of(uniform(size, TEN)), ())
        for size in range(2, 9):
            self.assertEqual(splits_of(uniform(size, TEN)), ())
        self.assertEqual(good_splits_of(TREE), (
            (0, 1), (0, 1, 2, 3, 6, 7, 8, 9), (0, 1, 2, 3, 6, 7, 9), (0, 1, 4, 5, 6, 7, 8, 9), (0, 1, 4, 5, 6, 8, 9),
            (0, 1, 6, 9)))
        self.assertLess(time.perf_counter() - start, 5)

    def test_splits_of_the_dual_are_the_same(self):
        for matroid in GREAT:
            self.assertEqual(splits_of(matroid.dual()), splits_of(matroid))
            self.assertEqual(good_splits_of(matroid.dual()), good_splits_of(matroid))

    def test_few_elements(self):
        for matroid in with_one_part(small.matroids_on_each([(7,), (0, 199), (2, 3, 5)])):
            self.assertEqual((splits_of(matroid), good_splits_of(matroid=matroid)), ((), ()))
        self.assertEqual(splits_of(matroid=uniform(3, (0, 1, 2, 3))), ((0, 1), (0, 2), (0, 3)))

    def test_not_just_one_part(self):
        apart = [matroid for matroid in ALL_SMALL if len(piece_words.parts(matroid.ground, matroid.bases)) != 1]
        for matroid in apart + [EMPTY, LOOPS, MIXED, uniform(0, TEN), uniform(10, TEN)]:
            self.assertRaises(Unlike, splits_of, matroid)
            self.assertRaises(Unlike, good_splits_of, matroid)
            self.assertRaises(Unlike, pieces_of, matroid)


class TwoSumTest(unittest.TestCase):

    def wanted(self, one, other, marker):
        return piece_words.sum_circuits((one.ground, one.circuits), (other.ground, other.circuits), marker)

    def compared(self, one, other, marker):
        made = two_sum(one, other)
        self.assertIs(type(made), Matroid)
        self.assertEqual(made.ground, words.without(words.together(one.ground, other.ground), marker))
        self.assertEqual(words.circuits(made.ground, made.bases), self.wanted(one, other, marker))
        self.assertEqual(two_sum(other, one), made)
        self.assertEqual(two_sum(one.dual(), other.dual()), made.dual())

    def is_joint(self, matroid, marker):
        loops, coloops = words.loops(matroid.ground, matroid.bases), words.coloops(matroid.ground, matroid.bases)
        return marker not in loops + coloops

    def test_all_pairs_of_small_ones(self):
        for ground, other_ground in (((0, 4), (4, 6)), ((0, 4), (3, 4, 6)), ((0, 4, 9), (3, 4, 6)), ((4,), (4, 5)),
                                     ((0, 2, 4, 9), (4, 5, 7))):
            for one, other in product(small.matroids_on(ground), small.matroids_on(other_ground)):
                if self.is_joint(one, 4) and self.is_joint(other, 4):
                    self.compared(one, other, 4)
                else:
                    self.assertRaises(Unlike, two_sum, one, other)
                    self.assertRaises(Unlike, two_sum, other, one)

    def test_greater_ones(self):
        self.compared(named("U24"), renamed(named("U25"), (0, 10, 11, 12, 13)), 0)
        self.compared(named("F7"), uniform(2, (6, 7, 8)), 6)
        self.compared(extended(uniform(2, (0, 1, 2)), 9, ((),)), extended(uniform(1, (2, 3, 4)), 8, ()), 2)

    def test_ten_elements(self):
        made = two_sum(uniform(5, TEN), uniform(1, (9, 50)))
        self.assertEqual(made, renamed(uniform(5, TEN), TEN[:9] + (50,)))
        made = two_sum(uniform(2, TEN[:6]), uniform(2, (5, 20, 21, 22, 23, 24)))
        self.assertEqual((len(made.ground), made.rank), (10, 3))
        self.assertRaises(Unlike, two_sum, uniform(5, TEN), uniform(1, (9, 50, 51)))
        self.assertRaises(Unlike, two_sum, uniform(2, TEN[:6]), uniform(2, (5, 20, 21, 22, 23, 24, 25)))
        self.assertRaises(Unlike, two_sum, uniform(5, TEN), uniform(5, (9,) + tuple(range(20, 29))))

    def test_other_numbers_of_common_elements(self):
        one = uniform(1, (0, 1, 2))
        for other in (uniform(1, (3, 4)), uniform(1, (0, 1)), one, EMPTY, uniform(2, (0, 1, 2, 3))):
            self.assertRaises(Unlike, two_sum, one, other)
            self.assertRaises(Unlike, two_sum, other, one)

    def test_a_split_is_a_two_sum(self):
        for matroid in ONE_PART[::3] + [WHEEL, PARALLEL]:
            for side in splits_of(matroid)[::2]:
                halves = [piece_words.side_ranks(matroid.ground, matroid.bases, half, 120)
                          for half in (side, words.without(matroid.ground, *side))]
                one, other = [Matroid(max(ranks, key=len), piece_words.bases_by_ranks(ranks)) for ranks in halves]
                self.assertEqual(two_sum(one, other), matroid)

    def test_arguments_by_name(self):
        self.assertEqual(two_sum(other=uniform(1, (0, 1)), one=uniform(1, (1, 2))), uniform(1, (0, 2)))


class PiecesTest(unittest.TestCase):

    def compared(self, matroid, orders):
        found = pieces_of(matroid)
        told = [(piece.ground, piece.bases) for piece in found]
        self.assertIs(type(found), tuple)
        self.assertTrue(all(type(piece) is Matroid for piece in found))
        for order in orders:
            self.assertEqual(told, piece_words.pieces(matroid.ground, matroid.bases, order), matroid.bases)
        self.assertEqual(joined_of(found), matroid)
        for piece in found:
            many = len(piece.ground)
            self.assertTrue(not splits_of(piece) or piece in (uniform(1, piece.ground), uniform(many - 1, piece.ground)))

    def test_all_small_matroids(self):
        for ground in ((2, 3, 5), (0, 7, 8, 149), (1, 10, 100, 101, 148)):
            for matroid in with_one_part(small.matroids_on(ground)):
                many = len(good_splits_of(matroid))
                self.compared(matroid, permutations(range(many)))

    def test_six_and_seven_elements(self):
        for matroid in (PARALLEL, PARALLEL.dual(), SUMS[0], uniform(1, TEN[:6]), uniform(5, TEN[:6]),
                        uniform(3, TEN[:6]), named("F7")):
            many = len(good_splits_of(matroid))
            orders = list(permutations(range(many)))
            self.compared(matroid, orders[::max(1, len(orders) // 6)])

    def test_up_to_ten_elements(self):
        for matroid in GREAT:
            many = len(good_splits_of(matroid))
            self.compared(matroid, [tuple(range(many))[::-1]] if len(matroid.ground) < 10 else [])
        self.compared(TREE, [(3, 1, 5, 0, 2, 4)])
        self.assertEqual([piece.ground for piece in pieces_of(TREE)], [
            (0, 1, 150), (2, 3, 153), (4, 5, 151), (6, 9, 150, 155), (7, 153, 154), (8, 151, 152), (152, 154, 155)])

    def test_without_good_splits(self):
        for matroid in (uniform(1, (0, 1, 2)), uniform(2, (3, 4, 149)), uniform(5, TEN), named("K33"), uniform(9, TEN)):
            found = pieces_of(matroid=matroid)
            self.assertEqual(found, (matroid,))

    def test_less_than_three_elements(self):
        for matroid in with_one_part(small.matroids_on_each([(7,), (0, 149)])):
            self.assertRaises(Unlike, pieces_of, matroid)

    def test_elements_below_150(self):
        for ground in ((0, 1, 150), (0, 1, 199), (160, 170, 180)):
            self.assertRaises(Unlike, pieces_of, uniform(1, ground))
        self.assertEqual(len(pieces_of(uniform(1, (0, 1, 149)))), 1)

    def test_no_answer_takes_long(self):
        start = time.perf_counter()
        for matroid in GREAT:
            parts_of(matroid), splits_of(matroid), good_splits_of(matroid), joined_of(pieces_of(matroid))
        self.assertLess(time.perf_counter() - start, 5)


class JoinedTest(unittest.TestCase):

    def test_pieces_in_any_order(self):
        for matroid in (PARALLEL, SUMS[0], SUMS[3]):
            for pieces in list(permutations(pieces_of(matroid)))[::7]:
                self.assertEqual(joined_of(pieces), matroid)
        pieces = pieces_of(TREE)
        for turn in range(len(pieces)):
            self.assertEqual(joined_of(pieces[turn:] + pieces[:turn]), TREE)
            self.assertEqual(joined_of(pieces[turn::-1] + pieces[:turn:-1]), TREE)

    def test_against_the_circuits(self):
        pieces = (uniform(1, (0, 1, 2)), uniform(2, (2, 3, 4)), extended(uniform(2, (4, 5, 6)), 9, ((),)),
                  Matroid((1, 7, 8), ((1, 8), (7, 8))))
        told = (pieces[0].ground, pieces[0].circuits)
        for piece, marker in zip(pieces[1:], (2, 4, 1)):
            ground = words.without(words.together(told[0], piece.ground), marker)
            told = (ground, piece_words.sum_circuits(told, (piece.ground, piece.circuits), marker))
        for order in permutations(pieces):
            made = joined_of(pieces=order)
            self.assertEqual((made.ground, words.circuits(made.ground, made.bases)), told)

    def test_one_piece(self):
        for matroid in (EMPTY, LOOPS, MIXED, uniform(5, TEN), named("F7")):
            self.assertEqual(joined_of((matroid,)), matroid)

    def test_eight_pieces_but_not_nine(self):
        chain = tuple(uniform(1, (at, at + 1)) for at in range(9))
        self.assertEqual(joined_of(chain[:8]), uniform(1, (0, 8)))
        self.assertRaises(BadPieces, joined_of, chain)
        star = (uniform(3, TEN[:7]),) + tuple(uniform(1, (at, 10 + at)) for at in range(7))
        self.assertEqual(joined_of(star), uniform(3, tuple(range(10, 17))))

    def test_ten_elements_but_not_eleven(self):
        big = uniform(5, TEN)
        self.assertEqual(joined_of((big, uniform(1, (9, 50)))), two_sum(big, uniform(1, (9, 50))))
        self.assertEqual(len(joined_of((big,) + tuple(uniform(1, (at, 50 + at)) for at in range(7))).ground), 10)
        self.assertRaises(BadPieces, joined_of, (big, uniform(1, (9, 50, 51))))
        self.assertRaises(BadPieces, joined_of, (big, uniform(1, (9, 50)), uniform(1, (8, 60, 61))))

    def test_what_are_no_pieces(self):
        one, other = uniform(1, (0, 1)), uniform(1, (1, 2))
        ring = (one, other, uniform(1, (2, 0)[::-1]))
        wrongs = [(), [one], [one, other], (one, [other]), one, ((one, other),), (one, one), (one, other, one),
                  (one, uniform(1, (2, 3))), (one, other, uniform(1, (3, 4))), ring, (EMPTY, EMPTY), (EMPTY, one),
                  (one, other, uniform(1, (1, 3))), (uniform(1, (0, 1, 2)), uniform(1, (0, 1, 3))),
                  (one, uniform(0, (1, 2))), (one, uniform(2, (1, 2))), (uniform(0, (0, 1)), other),
                  (one, uniform(1, (1,))), (one, uniform(0, (1,))), (uniform(1, (1,)), uniform(1, (1,))),
                  (one, Matroid((1, 2), ((1,),))), (one, Matroid((1, 2), ((2,),))), (one, other, EMPTY)]
        wrongs += wrong.OTHERS + [(x,) for x in small.NO_MATROIDS] + [(one, x) for x in small.NO_MATROIDS]
        wrongs += [(x, one) for x in small.NO_MATROIDS] + [(one,) * 8, (one,) * 9, ((0, 1), (1, 2))]
        four = tuple(uniform(1, ground) for ground in ((0, 1), (1, 2), (2, 3), (3, 4), (20, 21), (21, 22), (20, 22)))
        wrongs += [four, four[:4] + four[4:6], four[:3] + four[4:]]
        for thing in wrongs:
            with self.subTest(kind=type(thing).__name__):
                self.assertRaises(BadPieces, joined_of, thing)
                self.assertRaises(BadPieces, joined_of, pieces=thing)


class ErrorsTest(unittest.TestCase):

    def test_what_is_no_matroid(self):
        for thing in small.NO_MATROIDS:
            with self.subTest(kind=type(thing).__name__):
                for function in (parts_of, splits_of, good_splits_of, pieces_of):
                    self.assertRaises(BadMatroid, function, thing)
                    self.assertRaises(BadMatroid, function, matroid=thing)
                self.assertRaises(BadMatroid, two_sum, thing, EMPTY)
                self.assertRaises(BadMatroid, two_sum, EMPTY, thing)
                self.assertRaises(BadMatroid, two_sum, other=thing, one=thing)

    def test_what_is_handed_in_stays_as_it_was(self):
        pieces = [uniform(1, (0, 1)), uniform(1, (1, 2))]
        before = copy.copy(pieces)
        self.assertRaises(BadPieces, joined_of, pieces)
        self.assertEqual(pieces, before)
        pieces = tuple(pieces)
        joined_of(pieces), two_sum(*pieces), parts_of(pieces[0])
        self.assertEqual([(piece.ground, piece.bases) for piece in pieces],
                         [((0, 1), ((0,), (1,))), ((1, 2), ((1,), (2,)))])
        matroid = by_matrix(2, ((1, 0, 1, 1), (0, 1, 1, 1)), (0, 1, 2, 3))
        splits_of(matroid), good_splits_of(matroid), pieces_of(matroid)
        self.assertEqual((matroid.ground, matroid.bases),
                         ((0, 1, 2, 3), tuple(x for x in combinations((0, 1, 2, 3), 2) if x != (2, 3))))
