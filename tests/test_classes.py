import copy
import time
import unittest
from itertools import combinations, permutations, product

from rankwright.classes import (
    binary_of, forbidden, graph_of, is_graph_of, is_of, is_way, least_way, ternary_of,
)
from rankwright.errors import BadMatroid, BadName
from rankwright.extensions import extended, relaxed, tightened
from rankwright.logs import contracted, deleted
from rankwright.makers import NAMES, by_graph, by_matrix, named, summed, truncated, uniform
from rankwright.matroids import Matroid
from tests import class_words, making_words, small, words, wrong
from tests.class_words import CLASSES
from tests.small import EMPTY, FIVE, FOUR, LOOPS, MIXED, TEN

NO_CLASSES = wrong.OTHERS + [
    "Binary", "binary ", "unimodular", "", "U24", "binar", b"binary", ("binary",), ["binary"], "graph", "cobinary",
    "planary", "regular\n",
]


def renamed(matroid, names):
    to = dict(zip(matroid.ground, names))
    bases = tuple(sorted(tuple(sorted(to[x] for x in base)) for base in matroid.bases))
    return Matroid(tuple(sorted(names)), bases)


def mixed_matrix(number, rows, many, seed):
    """A matrix with entries that follow no plain rule."""
    return tuple(tuple((seed * seed + 7 * row * row * at + 5 * at * at + row * seed + at * seed * 3) // 4 % number
                       for at in range(many)) for row in range(rows))


# Matroids of six to ten elements of many classes, with loops, coloops and parallel elements.
GREAT = ([named(name) for name in NAMES]
         + [uniform(size, TEN) for size in range(11)]
         + [by_matrix(number, mixed_matrix(number, rows, many, seed), TEN[:many])
            for number, rows, many, seed in product((2, 3), (3, 4, 5, 6), (6, 8, 10), (1, 2, 3))]
         + [summed(renamed(named("F7"), (3, 5, 8, 9, 20, 21, 199)), uniform(1, (0, 30))),
            summed(renamed(named("F7*"), (3, 5, 8, 9, 20, 21, 199)), uniform(2, (0, 30, 31))),
            extended(named("K33"), 100, ()), extended(named("K33*"), 100, ((),)), extended(named("K33*"), 100, ()),
            extended(named("F7"), 9, ()), extended(extended(named("F7*"), 9, ()), 8, ((),)),
            relaxed(named("F7"), (0, 1, 2)), relaxed(named("F7"), (0, 1, 2)).dual(), truncated(named("K5")),
            summed(named("U24"), renamed(named("U25"), (5, 6, 7, 8, 9)))])


class MatrixTest(unittest.TestCase):

    def compared(self, matroid):
        for number, function in ((2, binary_of), (3, ternary_of)):
            wanted = class_words.telling_matrix(number, matroid.ground, matroid.bases)
            self.assertEqual(function(matroid), wanted, (number, matroid.bases))

    def test_all_small_matroids(self):
        for matroid in small.matroids_on_each(small.GROUNDS + [FOUR]) + small.matroids_on(FIVE)[::4] + [MIXED]:
            self.compared(matroid)

    def test_six_elements_in_any_order(self):
        edges = ((0, 1), (0, 2), (0, 3), (1, 2), (1, 3), (2, 3))
        four = by_graph(edges, TEN[:6])
        for names in list(permutations(TEN[:6]))[::5]:
            one = renamed(four, names)
            line = [circuit for circuit in one.circuits if len(circuit) == 3][0]
            for matroid in (one, relaxed(one, line)):
                found = ternary_of(matroid)
                self.assertTrue(class_words.is_normal(3, matroid.ground, matroid.bases, found), (names, found))
                self.assertEqual(by_matrix(3, found, matroid.ground), matroid)

    def test_the_entry_that_is_taken_last_is_in_the_last_row(self):
        rows = ((1, 0, 0, 1, 0, 1), (0, 1, 0, 0, 1, 1), (0, 0, 1, 1, 2, 0))
        self.assertEqual(ternary_of(by_matrix(3, rows, TEN[:6])), rows)
        other = ((1, 0, 0, 1, 0, 1), (0, 1, 0, 0, 1, 2), (0, 0, 1, 1, 1, 0))
        self.assertEqual(ternary_of(by_matrix(3, other, TEN[:6])), rows)

    def test_one_normal_matrix_at_most_tells_a_matroid(self):
        for matroid in small.matroids_on(FOUR):
            told = [rows for rows in class_words.normal_matrices(3, matroid.ground, matroid.bases)
                    if by_matrix(3, rows, matroid.ground) == matroid]
            self.assertLessEqual(len(told), 1)

    def test_greater_ones_against_all_normal_matrices(self):
        for matroid in GREAT:
            for number, function in ((2, binary_of), (3, ternary_of)):
                found = function(matroid)
                if found is not None:
                    self.assertEqual(by_matrix(number, found, matroid.ground), matroid)
                    self.assertTrue(class_words.is_normal(number, matroid.ground, matroid.bases, found))
                elif len(matroid.ground) <= 8 and matroid.rank <= 3:
                    told = class_words.normal_matrices(number, matroid.ground, matroid.bases)
                    self.assertFalse(any(by_matrix(number, rows, matroid.ground) == matroid for rows in told))

    def test_whatever_a_matrix_tells_is_binary_or_ternary(self):
        for number, function in ((2, binary_of), (3, ternary_of)):
            for rows, many, seed in product(range(7), range(11), range(4)):
                matroid = by_matrix(number, mixed_matrix(number, rows, many, seed), TEN[:many])
                found = function(matroid)
                self.assertEqual(by_matrix(number, found, matroid.ground), matroid)
                self.assertEqual(function(by_matrix(number, found, matroid.ground)), found)
                self.assertEqual(len(found), matroid.rank)

    def test_rank_0_and_full_rank(self):
        for many in range(11):
            ground = TEN[10 - many:]
            full = tuple(tuple(int(row == at) for at in range(many)) for row in range(many))
            for function in (binary_of, ternary_of):
                self.assertEqual(function(uniform(0, ground)), ())
                self.assertEqual(function(uniform(many, ground)), full)

    def test_duals_and_minors(self):
        for matroid in GREAT[::3]:
            for function in (binary_of, ternary_of):
                told = function(matroid) is not None
                self.assertEqual(function(matroid.dual()) is not None, told)
                for element in matroid.ground[::4] if told else ():
                    self.assertIsNotNone(function(deleted(matroid, (element,))))
                    self.assertIsNotNone(function(contracted(matroid, (element,))))

    def test_no_answer_takes_long(self):
        start = time.perf_counter()
        for size in range(11):
            binary_of(uniform(size, TEN)), ternary_of(uniform(size, TEN))
            for seed in range(4):
                matroid = by_matrix(3, mixed_matrix(3, size, 10, seed), TEN)
                ternary_of(matroid), ternary_of(matroid.dual()), binary_of(matroid)
        self.assertLess(time.perf_counter() - start, 5)


class GraphTest(unittest.TestCase):

    def judged(self, matroid):
        """Whether there is a graph of a matroid, which must be one then."""
        found = graph_of(matroid)
        if found is None:
            return False
        self.assertIs(is_graph_of(matroid, found), True, (matroid.bases, found))
        self.assertEqual(making_words.graph_bases(found, matroid.ground) if len(found) < 6
                         else by_graph(found, matroid.ground).bases, matroid.bases)
        self.assertTrue(all(type(edge) is tuple and 0 <= edge[0] <= edge[1] <= 10 for edge in found))
        return True

    def test_all_small_matroids_against_all_graphs(self):
        for ground in small.GROUNDS + [FOUR]:
            told = {by_graph(edges, ground).bases for edges in class_words.graphs(len(ground))}
            for matroid in small.matroids_on(ground):
                self.assertEqual(self.judged(matroid), matroid.bases in told, matroid.bases)

    def test_five_elements(self):
        # All that are no graph's of so few elements have a way to U24.
        for matroid in small.matroids_on(FIVE):
            self.assertEqual(self.judged(matroid), binary_of(matroid) is not None, matroid.bases)

    def test_whatever_a_graph_tells_is_graphic(self):
        for vertices, many, seed in product(range(1, 12), range(11), range(6)):
            edges = [((seed * at + at * at + seed) % vertices, (3 * at + seed * seed + at * at * seed) % vertices)
                     for at in range(many)]
            matroid = by_graph(tuple((min(edge), max(edge)) for edge in edges), TEN[10 - many:])
            self.assertTrue(self.judged(matroid), edges)

    def test_named_ones(self):
        self.assertEqual([name for name in NAMES if self.judged(named(name))], ["K33", "K5"])
        self.assertEqual([name for name in NAMES if self.judged(named(name).dual())], ["K33*", "K5*"])

    def test_rank_0_and_full_rank_and_circuits(self):
        for many in range(11):
            for size in (0, 1, many - 1, many):
                if 0 <= size <= many:
                    self.assertTrue(self.judged(uniform(size, TEN[:many])))
        self.assertEqual(graph_of(EMPTY), ())

    def test_wheels_ladders_and_their_duals(self):
        wheel = tuple((0, at) for at in range(1, 6)) + tuple((at, at + 1) for at in range(1, 5)) + ((1, 5),)
        ladder = ((0, 1), (1, 2), (2, 3), (4, 5), (5, 6), (6, 7), (0, 4), (1, 5), (2, 6), (3, 7))
        prism = ((0, 1), (1, 2), (0, 2), (3, 4), (4, 5), (3, 5), (0, 3), (1, 4), (2, 5), (0, 5))
        for edges in (wheel, ladder, prism):
            matroid = by_graph(edges, TEN)
            self.assertTrue(self.judged(matroid))
            self.assertTrue(self.judged(matroid.dual()))
            self.assertIs(is_of(matroid, "planar"), True)

    def test_any_name_of_elements(self):
        for names in permutations((5, 1, 199, 40, 7)):
            matroid = renamed(by_graph(((0, 1), (1, 2), (0, 2), (2, 3), (2, 3)), TEN[:5]), names)
            self.assertTrue(self.judged(matroid))

    def test_no_answer_takes_long(self):
        start = time.perf_counter()
        for matroid in GREAT:
            graph_of(matroid), graph_of(matroid.dual())
        self.assertLess(time.perf_counter() - start, 5)


class IsGraphTest(unittest.TestCase):

    def test_all_graphs_with_few_edges(self):
        edges = [(u, v) for v in range(4) for u in range(v + 1)]
        for ground in ((), (7,), (0, 199)):
            for graph, matroid in product(product(edges, repeat=len(ground)), small.matroids_on(ground)):
                self.assertIs(is_graph_of(matroid, graph), making_words.graph_bases(graph, ground) == matroid.bases)

    def test_three_and_ten_edges(self):
        for graph in class_words.graphs(3):
            told = making_words.graph_bases(graph, (2, 3, 5))
            for matroid in small.matroids_on((2, 3, 5))[::3]:
                self.assertIs(is_graph_of(matroid, graph), told == matroid.bases)
        five = tuple(combinations(range(5), 2))
        self.assertIs(is_graph_of(named("K5"), five), True)
        self.assertIs(is_graph_of(named("K5"), tuple((u + 6, v + 6) for u, v in five)), True)
        self.assertIs(is_graph_of(named("K5"), five[1:] + five[:1]), by_graph(five[1:] + five[:1], TEN) == named("K5"))
        self.assertIs(is_graph_of(named("K5*"), five), False)

    def test_any_value(self):
        matroid = uniform(1, (0, 1))
        edge = (0, 1)
        self.assertIs(is_graph_of(matroid, (edge, edge)), True)
        edges = wrong.OTHERS + [(x, 1) for x in wrong.NO_INTEGERS + [-1, 2, 11]] + [
            (0, x) for x in wrong.NO_INTEGERS + [-1, 11, 2, 10 ** 40]] + [(1, 0), [0, 1], (0,), (0, 1, 1), (0, 0)]
        for thing in wrong.OTHERS + [(x, edge) for x in edges] + [(edge, x) for x in edges] + [
                [edge, edge], (edge,), (edge,) * 3, {edge: edge}, ((edge, edge),)]:
            with self.subTest(kind=type(thing).__name__):
                self.assertIs(is_graph_of(matroid, thing), False)
        for thing in wrong.OTHERS + [(edge,)]:
            self.assertIs(is_graph_of(EMPTY, thing), False)
        self.assertIs(is_graph_of(EMPTY, ()), True)

    def test_arguments_by_name(self):
        self.assertIs(is_graph_of(thing=((0, 1), (0, 1)), matroid=uniform(1, (4, 9))), True)


class ClassTest(unittest.TestCase):

    def wanted(self, matroid):
        """The classes by matrices and graphs."""
        binary, ternary = binary_of(matroid) is not None, ternary_of(matroid) is not None
        graphic, cographic = graph_of(matroid) is not None, graph_of(matroid.dual()) is not None
        return {"binary": binary, "ternary": ternary, "regular": binary and ternary, "graphic": graphic,
                "cographic": cographic, "planar": graphic and cographic}

    def compared(self, matroid):
        wanted = self.wanted(matroid)
        for name in CLASSES:
            self.assertIs(is_of(matroid, name), wanted[name], (name, matroid.bases))
            way = least_way(matroid, name)
            self.assertEqual(way is None, wanted[name], (name, matroid.bases))
            if way is not None:
                self.assertIn(way[0], forbidden(name))
                self.assertIs(is_way(matroid, way), True, (name, matroid.bases))

    def test_all_small_matroids(self):
        for matroid in small.matroids_on_each(small.GROUNDS + [FOUR, FIVE]) + [MIXED]:
            self.compared(matroid)

    def test_great_ones_by_matrices_and_graphs_on_the_one_side_and_ways_on_the_other_one(self):
        for matroid in GREAT:
            self.compared(matroid)
            self.compared(matroid.dual())

    def test_classes_of_duals(self):
        turned = {"graphic": "cographic", "cographic": "graphic"}
        for matroid in GREAT[::2]:
            for name in CLASSES:
                self.assertEqual(is_of(matroid, name), is_of(matroid.dual(), turned.get(name, name)))

    def test_named_ones(self):
        told = {name: [kind for kind in CLASSES if is_of(named(name), kind)] for name in NAMES}
        self.assertEqual(told, {
            "U24": ["ternary"], "U25": [], "U35": [], "F7": ["binary"], "F7*": ["binary"],
            "K33": ["binary", "ternary", "regular", "graphic"], "K5": ["binary", "ternary", "regular", "graphic"],
            "K33*": ["binary", "ternary", "regular", "cographic"],
            "K5*": ["binary", "ternary", "regular", "cographic"]})

    def test_each_forbidden_one_is_of_the_class_but_for_itself(self):
        for kind, names in class_words.ROWS.items():
            for name in names:
                matroid = named(name)
                self.assertEqual(least_way(matroid, kind)[0], name)
                for element in matroid.ground:
                    self.assertIs(is_of(deleted(matroid, (element,)), kind), True)
                    self.assertIs(is_of(contracted(matroid, (element,)), kind), True)

    def test_forbidden(self):
        for kind in CLASSES:
            self.assertEqual(forbidden(kind), tuple(class_words.ROWS[kind]))
            self.assertEqual(forbidden(name=kind), forbidden(kind))

    def test_no_answer_takes_long(self):
        great = [matroid for matroid in GREAT if len(matroid.ground) > 8]
        start = time.perf_counter()
        for matroid in great:
            for name in CLASSES:
                is_of(matroid, name), least_way(matroid, name)
        self.assertLess(time.perf_counter() - start, 0.5 * len(great))


class LeastWayTest(unittest.TestCase):

    def compared(self, matroid, names=CLASSES):
        for name in names:
            self.assertEqual(least_way(matroid, name), class_words.least_way(matroid, name), (name, matroid.bases))

    def test_all_small_matroids(self):
        for matroid in small.matroids_on_each(small.GROUNDS + [FOUR]):
            self.compared(matroid)

    def test_five_elements(self):
        for matroid in small.matroids_on(FIVE)[::3]:
            self.compared(matroid, ("binary", "ternary"))

    def test_six_elements(self):
        ground = (1, 4, 30, 31, 32, 199)
        for matroid in [uniform(size, ground) for size in range(7)] + [
                tightened(uniform(3, ground), (1, 4, 30)), tightened(uniform(3, ground), (31, 32, 199)),
                tightened(uniform(2, ground), (1, 4)), tightened(uniform(4, ground), (1, 4, 30, 31)),
                extended(uniform(2, ground[1:]), 1, ((4,),)), extended(uniform(3, ground[:5]), 199, ((1, 4),)),
                extended(uniform(2, ground[:5]), 199, ()), extended(uniform(3, ground[1:]), 1, ((),))]:
            self.compared(matroid, ("binary", "ternary", "planar"))

    def test_seven_elements(self):
        f7 = named("F7")
        for matroid in (f7, renamed(f7, (12, 3, 150, 7, 0, 40, 9)), renamed(f7.dual(), (3, 2, 1, 0, 9, 8, 7)),
                        relaxed(f7, (0, 1, 2))):
            self.compared(matroid, ("ternary", "regular"))

    def test_eight_elements(self):
        f7 = renamed(named("F7"), (12, 3, 150, 7, 0, 40, 9))
        for matroid in (extended(f7, 4, ()), extended(f7, 4, ((3,),)), extended(f7.dual(), 160, ((150,),))):
            self.compared(matroid, ("ternary",))

    def test_a_later_contracted_set_with_a_less_order(self):
        # The affine space with eight points, of which any one may be contracted.
        for points in ((14, 9, 12, 13, 15, 11, 8, 10), (13, 11, 12, 9, 10, 14, 15, 8)):
            rows = tuple(tuple(point >> row & 1 for point in points) for row in (3, 2, 1, 0))
            self.compared(by_matrix(2, rows, TEN[:8]), ("ternary",))

    def test_the_fewest_elements_go_ahead_of_the_first_name(self):
        one = summed(named("K5*"), EMPTY)
        self.assertEqual(least_way(one, "graphic"), ("K5*", TEN, ()))
        one = summed(renamed(named("U25"), (1, 2, 3, 4, 5)), renamed(named("U35"), (0, 6, 7, 8, 9)))
        self.assertEqual(least_way(one, "ternary"), ("U25", (1, 2, 3, 4, 5), ()))
        self.assertEqual(least_way(one, "binary"), ("U24", (0, 6, 7, 8), (9,)))

    def test_the_fewest_contracted_elements(self):
        # Contracting 0 is needed, contracting 9, a loop, is not.
        one = extended(extended(named("U24").dual(), 8, ()), 9, ((),))
        self.assertEqual(least_way(one, "binary"), ("U24", (0, 1, 2, 3), ()))
        one = extended(uniform(3, (1, 2, 3, 4, 5)), 9, ((),))
        self.assertEqual(least_way(one, "binary"), ("U24", (1, 2, 3, 4), (5,)))

    def test_ten_elements(self):
        self.assertEqual(least_way(uniform(5, TEN), "binary"), ("U24", (0, 1, 2, 3), (4, 5, 6)))
        self.assertEqual(least_way(uniform(5, TEN), "ternary"), ("U25", (0, 1, 2, 3, 4), (5, 6, 7)))
        self.assertEqual(least_way(uniform(8, TEN), "ternary"), ("U35", (0, 1, 2, 3, 4), (5, 6, 7, 8, 9)))
        self.assertEqual(least_way(named("K5"), "planar"), ("K5", TEN, ()))

    def test_equal_calls_return_equal_results(self):
        for matroid in (named("F7"), uniform(5, TEN), named("K33")):
            for name in CLASSES:
                self.assertEqual(least_way(matroid, name), least_way(name=name, matroid=matroid))
            self.assertEqual(graph_of(matroid), graph_of(matroid=matroid))
            self.assertEqual((binary_of(matroid), ternary_of(matroid)), (binary_of(matroid=matroid),
                                                                         ternary_of(matroid=matroid)))


class IsWayTest(unittest.TestCase):

    def test_minors_are_told_by_deleting_and_contracting(self):
        for matroid in small.matroids_on(FIVE)[::9] + [named("F7")]:
            for order in ((matroid.ground[3], matroid.ground[0], matroid.ground[4]), matroid.ground[:4]):
                for gone in words.sets_within(words.without(matroid.ground, *order)):
                    left = words.without(matroid.ground, *order, *gone)
                    one = contracted(deleted(matroid, left), gone)
                    bases = tuple(sorted(tuple(sorted(order.index(x) for x in base)) for base in one.bases))
                    self.assertEqual(class_words.minor(matroid, order, gone), bases)

    def test_all_orders_and_sets_for_four_and_five_elements(self):
        for matroid in small.matroids_on(FOUR)[::4] + small.matroids_on(FIVE)[::40] + [
                uniform(2, FOUR), uniform(2, FIVE), uniform(3, FIVE)]:
            for name in ("U24", "U25", "U35"):
                for many in (4, 5):
                    for order in permutations(matroid.ground, many):
                        for gone in words.sets_within(words.without(matroid.ground, *order)):
                            self.assertIs(is_way(matroid, (name, order, gone)),
                                          class_words.is_way(matroid, name, order, gone))

    def test_orders_of_f7(self):
        f7 = named("F7")
        counts = {name: 0 for name in NAMES}
        for order in permutations(f7.ground):
            for name in ("F7", "F7*"):
                counts[name] += is_way(f7, (name, order, ()))
        self.assertEqual((counts["F7"], counts["F7*"]), (168, 0))
        self.assertIs(is_way(f7, ("F7", (1, 0, 2, 3, 4, 5, 6), ())), False)

    def test_all_named_ones(self):
        for name in NAMES:
            for other in NAMES:
                ground = named(other).ground
                self.assertIs(is_way(named(name), (other, ground, ())), name == other or
                              class_words.is_way(named(name), other, ground, ())
                              if words.is_within(ground, named(name).ground) else False)

    def test_contracted_sets(self):
        matroid = uniform(4, TEN)
        for gone in words.sets_within(TEN[5:]):
            self.assertIs(is_way(matroid, ("U24", (3, 1, 4, 0), gone)), len(gone) == 2)
            self.assertIs(is_way(matroid, ("U25", (3, 1, 4, 0, 2), gone)), len(gone) == 2)
            self.assertIs(is_way(matroid, ("U35", (3, 1, 4, 0, 2), gone)), len(gone) == 1)
        # A loop may be contracted, too.
        self.assertIs(is_way(extended(named("U24"), 9, ((),)), ("U24", (0, 1, 2, 3), (9,))), True)

    def test_any_value(self):
        matroid = uniform(3, (0, 1, 2, 3, 4, 5))
        way = ("U24", (0, 1, 2, 3), (4,))
        self.assertIs(is_way(matroid, way), True)
        bent = wrong.OTHERS + [way[:2], way + ((),), list(way), (way,), way[::-1]]
        bent += [(x, *way[1:]) for x in wrong.OTHERS + [
            "U25", "F7", "K5", "K33*", "binary", "u24", "U24 ", b"U24", ("U24",), ["U24"]]]
        bent += [("U24", x, (4,)) for x in wrong.OTHERS + [
            (0, 1, 2), (0, 1, 2, 3, 5), (0, 1, 2, 2), (0, 1, 2, 4), (0, 1, 2, 6), [0, 1, 2, 3], (0, True, 2, 3),
            (0, 1, 2, "3"), (0, 1, 2, None), ((0, 1, 2, 3),), (False, 1, 2, 3), (0, 1, 2, -1), (0, 1, 2, 3.0)]]
        bent += [("U24", (0, 1, 2, 3), x) for x in wrong.no_sets_within(matroid.ground) + [
            (), (4, 5), (5, 4), (0,), (3, 4), (4, 4), [4], 4, (6,), ((4,),)]]
        for thing in bent:
            with self.subTest(kind=type(thing).__name__):
                self.assertIs(is_way(matroid, thing), False)
        for thing in wrong.OTHERS + [("U24", (), ())]:
            self.assertIs(is_way(EMPTY, thing), False)

    def test_arguments_by_name(self):
        self.assertIs(is_way(thing=("U24", (0, 1, 2, 3), ()), matroid=named("U24")), True)


class ErrorsTest(unittest.TestCase):

    def test_what_is_no_matroid(self):
        for thing in small.NO_MATROIDS:
            with self.subTest(kind=type(thing).__name__):
                for function in (binary_of, ternary_of, graph_of):
                    self.assertRaises(BadMatroid, function, thing)
                    self.assertRaises(BadMatroid, function, matroid=thing)
                for function in (is_graph_of, is_way):
                    self.assertRaises(BadMatroid, function, thing, ())
                    self.assertRaises(BadMatroid, function, thing=None, matroid=thing)
                for function in (is_of, least_way):
                    self.assertRaises(BadMatroid, function, thing, "binary")
                    self.assertRaises(BadMatroid, function, name=None, matroid=thing)

    def test_what_is_no_name(self):
        for name in NO_CLASSES:
            with self.subTest(kind=type(name).__name__):
                for matroid in (EMPTY, LOOPS, uniform(5, TEN)):
                    self.assertRaises(BadName, is_of, matroid, name)
                    self.assertRaises(BadName, least_way, name=name, matroid=matroid)
                self.assertRaises(BadName, forbidden, name)
                self.assertRaises(BadName, forbidden, name=name)

    def test_what_is_handed_in_stays_as_it_was(self):
        matroid = uniform(2, (1, 2, 3, 4))
        for thing in ([[0, 1]], ([0, 1],) * 4, ("U24", [1, 2, 3, 4], []), ["U24", (1, 2, 3, 4), ()]):
            before = copy.deepcopy(thing)
            self.assertIs(is_way(matroid, thing), False)
            self.assertIs(is_graph_of(matroid, thing), False)
            self.assertEqual(thing, before)
        for name in CLASSES:
            is_of(matroid, name), least_way(matroid, name)
        binary_of(matroid), ternary_of(matroid), graph_of(matroid)
        self.assertEqual((matroid.ground, matroid.bases), ((1, 2, 3, 4), tuple(combinations((1, 2, 3, 4), 2))))
