import copy
import time
import unittest
from itertools import combinations, product

from rankwright import makers
from rankwright.errors import BadFamily, BadGraph, BadGround, BadMatrix, BadMatroid, BadName, BadNumber, Unlike
from rankwright.makers import by_family, by_graph, by_matrix, named, summed, truncated, uniform
from rankwright.matroids import Matroid
from tests import making_words, small, words, wrong
from tests.small import EMPTY, FOUR, LOOPS, MIXED, TEN

THREE = (2, 5, 199)
NO_GROUNDS = wrong.NO_SETS + [tuple(range(11))]


class MadeTest(unittest.TestCase):

    def made(self, matroid, ground, bases, told):
        self.assertIs(type(matroid), Matroid)
        self.assertEqual((matroid.ground, matroid.bases), (ground, bases), told)


class MatrixTest(MadeTest):

    def compared(self, number, rows, ground):
        self.made(by_matrix(number, rows, ground), ground, making_words.matrix_bases(number, rows, ground), rows)

    def all_matrices(self, number, many, ground):
        return product(list(product(range(number), repeat=len(ground))), repeat=many)

    def test_all_small_matrices_over_2(self):
        for many, ground in ((0, THREE), (1, THREE), (2, THREE), (3, THREE), (1, FOUR), (2, FOUR), (4, (0, 9))):
            for rows in self.all_matrices(2, many, ground):
                self.compared(2, rows, ground)

    def test_all_small_matrices_over_3(self):
        for many, ground in ((0, THREE), (1, THREE), (2, THREE), (1, FOUR), (3, (0, 9)), (4, (5,))):
            for rows in self.all_matrices(3, many, ground):
                self.compared(3, rows, ground)

    def test_more_columns(self):
        ground = (0, 1, 3, 7, 8, 9)
        for number in (2, 3):
            for seed in range(40):
                entries = [(seed * seed + 7 * at * at * at + at * seed) // 5 % number for at in range(24)]
                self.compared(number, tuple(tuple(entries[at::4]) for at in range(4)), ground)

    def test_without_rows_or_elements(self):
        for number in (2, 3):
            for ground in ((), (4,), (4, 5), TEN):
                self.made(by_matrix(number, (), ground), ground, ((),), ground)
            for many in range(11):
                self.made(by_matrix(number, ((),) * many, ()), (), ((),), many)

    def test_loops_coloops_and_parallel_elements(self):
        made = by_matrix(3, ((0, 1, 2, 0, 1), (0, 2, 1, 0, 2), (0, 0, 0, 2, 0)), (1, 4, 6, 7, 9))
        self.assertEqual((made.loops, made.coloops, made.circuits), ((1,), (7,), ((1,), (4, 6), (4, 9), (6, 9))))

    def test_the_number_counts(self):
        rows = ((1, 1, 0), (1, 0, 1), (0, 1, 1))
        self.assertEqual(by_matrix(2, rows, THREE).bases, ((2, 5), (2, 199), (5, 199)))
        self.assertEqual(by_matrix(3, rows, THREE).bases, (THREE,))

    def test_ten_rows_of_ten(self):
        rows = tuple(tuple(1 if at == row else 0 for at in TEN) for row in TEN)
        self.made(by_matrix(2, rows, TEN), TEN, (TEN,), "one base")
        self.compared(2, tuple(tuple((at * at + row) // 3 % 2 for at in TEN) for row in TEN), TEN)
        self.compared(3, tuple(tuple((at + row) * at % 3 for at in TEN[:7]) for row in TEN), TEN[:7])

    def test_arguments_by_name(self):
        self.assertEqual(by_matrix(ground=(1, 2), rows=((0, 2),), number=3).bases, ((2,),))


class WrongMatrixTest(unittest.TestCase):

    def test_what_is_no_number(self):
        for number in wrong.NO_INTEGERS + [0, 1, 4, -2, -3, 6, 10 ** 40, 2.0, 3.0]:
            with self.subTest(kind=type(number).__name__):
                self.assertRaises(BadNumber, by_matrix, number, ((1, 0),), (0, 1))
                self.assertRaises(BadNumber, by_matrix, ground=None, rows=None, number=number)

    def test_what_is_no_ground(self):
        for ground in NO_GROUNDS:
            with self.subTest(kind=type(ground).__name__):
                self.assertRaises(BadGround, by_matrix, 2, (), ground)
                self.assertRaises(BadGround, by_matrix, ground=ground, rows=None, number=3)

    def test_what_is_no_matrix(self):
        for number in (2, 3):
            for ground in ((), (4,), (4, 6)):
                row = (0,) * len(ground)
                rows = wrong.OTHERS + [row + (0,), row + ((),), list(row), (row,)]
                rows += [row[:-1] + (entry,) for entry in wrong.NO_INTEGERS + [-1, number, 4, 10 ** 40] if row]
                rows += [(entry,) + row[1:] for entry in wrong.NO_INTEGERS + [-1, number, 4, 10 ** 40] if row]
                wrongs = wrong.OTHERS + [(bad,) for bad in rows] + [(row, bad) for bad in rows]
                for thing in wrongs + [[row], [], (row,) * 11, [row] * 2, (row, row[:-1]) if row else None]:
                    with self.subTest(number=number, ground=ground, kind=type(thing).__name__):
                        self.assertRaises(BadMatrix, by_matrix, number, thing, ground)
                        self.assertRaises(BadMatrix, by_matrix, ground=ground, rows=thing, number=number)

    def test_a_row_alone_and_truth_values(self):
        for rows in ((0, 1), ((True, 0),), ((0, False),), ((1.0, 0),), ("01",), ((0, 1), [0, 1])):
            self.assertRaises(BadMatrix, by_matrix, 2, rows, (4, 6))

    def test_2_is_an_entry_over_3_alone(self):
        self.assertRaises(BadMatrix, by_matrix, 2, ((2,),), (4,))
        self.assertEqual(by_matrix(3, ((2,),), (4,)).bases, ((4,),))
        self.assertRaises(BadMatrix, by_matrix, 3, ((3,),), (4,))

    def test_ten_rows_but_not_eleven(self):
        self.assertEqual(by_matrix(2, ((1,),) * 10, (4,)).bases, ((4,),))
        self.assertRaises(BadMatrix, by_matrix, 2, ((1,),) * 11, (4,))

    def test_the_order_of_the_errors(self):
        self.assertRaises(BadNumber, by_matrix, 4, None, None)
        self.assertRaises(BadGround, by_matrix, 2, None, [0])
        self.assertRaises(BadMatrix, by_matrix, 2, None, (0,))

    def test_what_is_handed_in_stays_as_it_was(self):
        for rows in ([[0, 1]], ([0, 1], [1, 1]), [(0, 1)]):
            before = copy.deepcopy(rows)
            self.assertRaises(BadMatrix, by_matrix, 2, rows, (0, 1))
            self.assertEqual(rows, before)


class GraphTest(MadeTest):

    def compared(self, edges, ground):
        self.made(by_graph(edges, ground), ground, making_words.graph_bases(edges, ground), edges)

    def test_all_small_graphs(self):
        edges = [(u, v) for v in range(3) for u in range(v + 1)]
        for ground in ((), (7,), (0, 199), THREE):
            for graph in product(edges, repeat=len(ground)):
                self.compared(graph, ground)

    def test_all_graphs_with_four_edges_between_four_vertices(self):
        edges = [(u, v) for v in range(4) for u in range(v)]
        for graph in product(edges, repeat=4):
            if graph[0] in ((0, 1), (2, 3)):
                self.compared(graph, FOUR)

    def test_five_edges(self):
        edges = [(0, 1), (1, 2), (0, 2), (2, 10), (10, 10), (0, 10)]
        for graph in product(edges, repeat=5):
            if graph[0] < graph[1] <= graph[2]:
                self.compared(graph, (1, 10, 100, 101, 199))

    def test_loops_coloops_and_parallel_elements(self):
        made = by_graph(((3, 3), (0, 1), (0, 1), (4, 9), (10, 10)), (1, 4, 6, 7, 9))
        self.assertEqual((made.loops, made.coloops, made.circuits), ((1, 9), (7,), ((1,), (4, 6), (9,))))
        self.assertEqual(by_graph(((5, 5), (5, 5)), (4, 5)), LOOPS)
        self.assertEqual(by_graph((), ()), EMPTY)

    def test_ten_edges_and_all_vertices(self):
        path = tuple((at, at + 1) for at in range(10))
        self.made(by_graph(path, TEN), TEN, (TEN,), "a path")
        circle = tuple((at, at + 1) for at in range(9)) + ((0, 9),)
        self.made(by_graph(circle, TEN), TEN, tuple(combinations(TEN, 9)), "a circle")

    def test_arguments_by_name(self):
        self.assertEqual(by_graph(ground=(1, 2), edges=((0, 0), (9, 10))).bases, ((2,),))

    def test_what_is_no_ground(self):
        for ground in NO_GROUNDS:
            with self.subTest(kind=type(ground).__name__):
                self.assertRaises(BadGround, by_graph, (), ground)
                self.assertRaises(BadGround, by_graph, ground=ground, edges=None)

    def test_what_is_no_graph(self):
        ends = wrong.NO_INTEGERS + [-1, 11, 10 ** 40]
        edges = wrong.OTHERS + [(0, end) for end in ends] + [(end, 5) for end in ends] + [
            (), (0,), (0, 1, 2), [0, 1], (1, 0), (10, 9), (11, 11), (-1, -1), ((0, 1),), "01"]
        for edge in edges:
            for graph, ground in (((edge,), (4,)), (((0, 1), edge), (4, 6)), ((edge, (0, 1)), (4, 6))):
                with self.subTest(ground=ground, kind=type(edge).__name__):
                    self.assertRaises(BadGraph, by_graph, graph, ground)
        for ground in ((), (4,), (4, 6)):
            right = ((0, 1),) * len(ground)
            for thing in wrong.OTHERS + [right + ((0, 1),), right[:-1] + ((0, 1),) * 2, list(right), (right,)]:
                with self.subTest(ground=ground, kind=type(thing).__name__):
                    self.assertRaises(BadGraph, by_graph, thing, ground)
                    self.assertRaises(BadGraph, by_graph, ground=ground, edges=thing)
        self.assertRaises(BadGraph, by_graph, (), (4,))
        self.assertRaises(BadGraph, by_graph, (0, 1), (4, 6))

    def test_the_ends_of_edges(self):
        self.assertEqual(by_graph(((10, 10), (0, 10)), (4, 6)).bases, ((6,),))
        self.assertRaises(BadGraph, by_graph, ((0, 11),), (4,))
        self.assertRaises(BadGraph, by_graph, ((False, 1),), (4,))
        self.assertRaises(BadGraph, by_graph, ((0, True),), (4,))

    def test_what_is_handed_in_stays_as_it_was(self):
        for edges in ([[0, 1]], ([0, 1],), [(0, 1)]):
            before = copy.deepcopy(edges)
            self.assertRaises(BadGraph, by_graph, edges, (4,))
            self.assertEqual(edges, before)


class FamilyTest(MadeTest):

    def compared(self, family, ground):
        self.made(by_family(family, ground), ground, making_words.family_bases(family, ground), family)

    def test_all_small_families(self):
        for ground, most in (((), 3), ((7,), 3), ((0, 199), 3), (THREE, 3), (FOUR, 2)):
            for many in range(most + 1):
                for family in product(words.sets_within(ground), repeat=many):
                    self.compared(family, ground)

    def test_up_to_six_sets(self):
        ground = (1, 10, 100, 101, 199)
        sets = words.sets_within(ground)
        for many in (3, 4, 5, 6):
            for seed in range(60):
                self.compared(tuple(sets[(seed * seed + 11 * at * seed + at) % 32] for at in range(many)), ground)

    def test_equal_sets_empty_sets_and_any_order(self):
        self.assertEqual(by_family(((5,), (4,)), (4, 5)).bases, ((4, 5),))
        self.assertEqual(by_family(((4, 5), (4, 5)), (4, 5)).bases, ((4, 5),))
        self.assertEqual(by_family(((4,), (4,)), (4, 5)).bases, ((4,),))
        self.assertEqual(by_family(((), (4,), ()), (4, 5)).bases, ((4,),))
        self.assertEqual(by_family(((), ()), (4, 5)), LOOPS)
        self.assertEqual(by_family((), (4, 5)), LOOPS)
        self.assertEqual(by_family((), ()), EMPTY)
        self.assertEqual(by_family(((),) * 6, ()), EMPTY)

    def test_ten_elements(self):
        self.made(by_family((TEN,) * 5, TEN), TEN, tuple(combinations(TEN, 5)), "uniform")
        self.made(by_family((TEN[:5], TEN[5:]), TEN), TEN, tuple(product(TEN[:5], TEN[5:])), "halves")
        self.compared(((0, 1), (1, 2), (2, 3, 4), (5, 6, 7), (8, 9), (0, 9)), TEN)

    def test_arguments_by_name(self):
        self.assertEqual(by_family(ground=(1, 2), family=((2,),)).bases, ((2,),))

    def test_what_is_no_ground(self):
        for ground in NO_GROUNDS:
            with self.subTest(kind=type(ground).__name__):
                self.assertRaises(BadGround, by_family, (), ground)
                self.assertRaises(BadGround, by_family, ground=ground, family=None)

    def test_what_is_no_family(self):
        for ground in ((), (1,), (0, 1, 5)):
            members = wrong.no_sets_within(ground)
            wrongs = wrong.OTHERS + [(thing,) for thing in members] + [((), thing, ground) for thing in members]
            for thing in wrongs + [[()], [], ((),) * 7, (ground,) * 7, [ground] * 2]:
                with self.subTest(ground=ground, kind=type(thing).__name__):
                    self.assertRaises(BadFamily, by_family, thing, ground)
                    self.assertRaises(BadFamily, by_family, ground=ground, family=thing)
        self.assertRaises(BadFamily, by_family, (0, 1), (0, 1))
        self.assertRaises(BadFamily, by_family, ((False,), (True,)), (0, 1))

    def test_six_sets_but_not_seven(self):
        self.assertEqual(by_family(((4,),) * 6, (4,)).bases, ((4,),))
        self.assertRaises(BadFamily, by_family, ((4,),) * 7, (4,))

    def test_what_is_handed_in_stays_as_it_was(self):
        for family in ([[4]], ([4],), [(4,)]):
            before = copy.deepcopy(family)
            self.assertRaises(BadFamily, by_family, family, (4,))
            self.assertEqual(family, before)


class UniformTest(MadeTest):

    def test_all_sets_of_a_size_are_bases(self):
        for ground in small.GROUNDS + [FOUR, small.FIVE, TEN, tuple(range(190, 200))]:
            for size in range(len(ground) + 1):
                self.made(uniform(size, ground), ground, tuple(combinations(ground, size)), size)

    def test_arguments_by_name(self):
        self.assertEqual(uniform(ground=(1, 2), size=1).bases, ((1,), (2,)))

    def test_what_is_no_ground(self):
        for ground in NO_GROUNDS:
            with self.subTest(kind=type(ground).__name__):
                self.assertRaises(BadGround, uniform, 0, ground)
                self.assertRaises(BadGround, uniform, ground=ground, size=None)

    def test_what_is_no_number(self):
        for ground in ((), (4,), (4, 6), TEN):
            for size in wrong.NO_INTEGERS + [-1, len(ground) + 1, 11, 10 ** 40, -10 ** 40]:
                with self.subTest(ground=ground, kind=type(size).__name__):
                    self.assertRaises(BadNumber, uniform, size, ground)
                    self.assertRaises(BadNumber, uniform, ground=ground, size=size)


class SummedTest(MadeTest):

    def test_all_small_sums(self):
        ones = small.matroids_on_each([(), (7,), (0, 199), (2, 5, 30)])
        others = small.matroids_on_each([(), (4,), (1, 198), (3, 8, 29)])
        for one, other in product(ones, others):
            ground = words.together(one.ground, other.ground)
            bases = making_words.summed_bases(one.bases, other.bases)
            self.made(summed(one, other), ground, bases, (one.bases, other.bases))
            self.made(summed(other, one), ground, bases, (one.bases, other.bases))

    def test_ten_elements_together(self):
        one, other = uniform(2, (0, 2, 4, 6, 8)), uniform(3, (1, 3, 5, 7, 9))
        self.made(summed(one, other), TEN, making_words.summed_bases(one.bases, other.bases), "ten")
        self.assertEqual(summed(uniform(5, TEN), EMPTY), uniform(5, TEN))
        self.assertEqual(summed(EMPTY, EMPTY), EMPTY)
        self.assertEqual(summed(LOOPS, uniform(1, (1, 2))).bases, ((1,), (2,)))

    def test_arguments_by_name(self):
        self.assertEqual(summed(other=uniform(1, (3,)), one=uniform(1, (5,))).bases, ((3, 5),))

    def test_what_is_no_matroid(self):
        for thing in small.NO_MATROIDS:
            with self.subTest(kind=type(thing).__name__):
                self.assertRaises(BadMatroid, summed, thing, MIXED)
                self.assertRaises(BadMatroid, summed, MIXED, thing)
                self.assertRaises(BadMatroid, summed, other=thing, one=thing)

    def test_a_common_element_or_too_many(self):
        for one, other in ((MIXED, MIXED), (LOOPS, MIXED), (uniform(0, (1, 2)), uniform(2, (2, 3))),
                           (uniform(1, TEN), uniform(0, (10,))), (uniform(0, TEN[:6]), uniform(5, (20, 21, 22, 23, 24))),
                           (uniform(3, TEN), uniform(3, TEN)), (uniform(3, TEN), uniform(3, tuple(range(9, 19))))):
            with self.subTest(one=one.ground, other=other.ground):
                self.assertRaises(Unlike, summed, one, other)
                self.assertRaises(Unlike, summed, other, one)


class TruncatedTest(MadeTest):

    def test_all_small_matroids(self):
        for matroid in small.matroids_on_each(small.GROUNDS + [FOUR, small.FIVE]):
            if matroid.rank == 0:
                self.assertRaises(Unlike, truncated, matroid)
            else:
                bases = making_words.truncated_bases(matroid.ground, matroid.bases)
                self.made(truncated(matroid), matroid.ground, bases, matroid.bases)

    def test_uniform_ones(self):
        for size in range(1, 11):
            self.assertEqual(truncated(matroid=uniform(size, TEN)), uniform(size - 1, TEN))

    def test_what_is_no_matroid(self):
        for thing in small.NO_MATROIDS:
            with self.subTest(kind=type(thing).__name__):
                self.assertRaises(BadMatroid, truncated, thing)
                self.assertRaises(BadMatroid, truncated, matroid=thing)

    def test_rank_0(self):
        for matroid in (EMPTY, LOOPS, uniform(0, TEN)):
            self.assertRaises(Unlike, truncated, matroid)

    def test_the_matroid_stays_as_it_was(self):
        matroid = uniform(2, (1, 2, 3))
        truncated(matroid), summed(matroid, LOOPS), summed(LOOPS, matroid)
        self.assertEqual((matroid.ground, matroid.bases), ((1, 2, 3), ((1, 2), (1, 3), (2, 3))))
        self.assertEqual((LOOPS.ground, LOOPS.bases), ((4, 5), ((),)))


class NamedTest(MadeTest):

    def test_the_names(self):
        self.assertEqual(makers.NAMES, ("U24", "U25", "U35", "F7", "F7*", "K33", "K5", "K33*", "K5*"))
        self.assertIs(type(makers.NAMES), tuple)

    def wanted(self):
        lines = ((0, 1, 2), (0, 3, 4), (0, 5, 6), (1, 3, 5), (1, 4, 6), (2, 3, 6), (2, 4, 5))
        k33 = ((0, 3), (0, 4), (0, 5), (1, 3), (1, 4), (1, 5), (2, 3), (2, 4), (2, 5))
        k5 = ((0, 1), (0, 2), (0, 3), (0, 4), (1, 2), (1, 3), (1, 4), (2, 3), (2, 4), (3, 4))
        told = {"U24": (4, tuple(combinations(range(4), 2))), "U25": (5, tuple(combinations(range(5), 2))),
                "U35": (5, tuple(combinations(range(5), 3))),
                "F7": (7, tuple(triple for triple in combinations(range(7), 3) if triple not in lines)),
                "K33": (9, self.trees(k33, 5)), "K5": (10, self.trees(k5, 4))}
        for name in ("F7", "K33", "K5"):
            many, bases = told[name]
            told[name + "*"] = (many, words.dual_bases(tuple(range(many)), bases))
        return told

    def trees(self, edges, size):
        """The sets of so many edges that join all the vertices."""
        def reached(chosen):
            found = {0}
            for _ in chosen:
                found |= {x for edge in chosen if set(edge) & found for x in edge}
            return found
        return tuple(places for places in combinations(range(len(edges)), size)
                     if len(reached([edges[at] for at in places])) == size + 1)

    def test_each_is_as_it_is_told(self):
        told = self.wanted()
        self.assertEqual(set(told), set(makers.NAMES))
        for name in makers.NAMES:
            many, bases = told[name]
            with self.subTest(name=name):
                self.made(named(name), tuple(range(many)), bases, name)
                self.assertEqual(named(name=name), named(name))

    def test_each_is_a_matroid_whatever_was_made_before(self):
        for name in makers.NAMES:
            made, again = named(name), named(name)
            self.assertEqual(Matroid(made.ground, made.bases), again, name)
            self.assertEqual((made.rank, made.circuits), (again.rank, again.circuits), name)
            self.assertEqual(made.dual().dual(), again, name)

    def test_hundreds_of_each_take_no_long_time(self):
        start = time.perf_counter()
        for name in makers.NAMES:
            for _ in range(300):
                named(name)
        self.assertLess(time.perf_counter() - start, 10)

    def test_how_many_bases(self):
        self.assertEqual([len(named(name).bases) for name in makers.NAMES], [6, 10, 10, 28, 28, 81, 125, 81, 125])

    def test_what_is_no_name(self):
        for name in wrong.OTHERS + [
                (), ("U24",), b"U24", "u24", "U24 ", "U24*", "U25*", "F7**", "f7", "F", "K33**", "K", "K4", "*", "U34",
                "U2", "F7\n"]:
            with self.subTest(kind=type(name).__name__):
                self.assertRaises(BadName, named, name)
                self.assertRaises(BadName, named, name=name)
