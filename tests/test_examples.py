"""The worked examples of DOC.md, as they stand there."""

import unittest

from rankwright.classes import binary_of, is_graph_of, is_of, is_way, least_way, ternary_of
from rankwright.errors import BadName
from rankwright.extensions import cut_of, cut_of_flats, cuts_of, extended, relaxed, tightened
from rankwright.likeness import apart_tree, form_of, mapping_between, symmetry_count
from rankwright.logs import normal_of, plain_of, replayed
from rankwright.makers import by_family, by_graph, by_matrix, named, summed, truncated, uniform
from rankwright.matroids import Matroid, fault_of, told_by
from rankwright.pieces import joined_of, parts_of, pieces_of, splits_of


class ExamplesTest(unittest.TestCase):

    def shown(self, result, text):
        self.assertEqual(repr(result), text)

    def test_a_matroid_with_a_loop(self):
        matroid = Matroid((0, 1, 2, 3), ((0, 1), (0, 2), (1, 2)))
        self.shown(
            (matroid.rank, matroid.circuits, matroid.hyperplanes, matroid.loops, matroid.closure_of((0,))),
            "(2, ((0, 1, 2), (3,)), ((0, 3), (1, 3), (2, 3)), (3,), (0, 3))")

    def test_fundamental_circuit_and_dual(self):
        matroid = Matroid((1, 3, 6, 8), ((1, 3), (1, 8), (3, 8)))
        self.shown(
            (matroid.fundamental((1, 3), 8), matroid.circuit_in((1, 6, 8)), matroid.dual().bases),
            "((1, 3, 8), (6,), ((1, 6), (3, 6), (6, 8)))")

    def test_a_fault_of_bases(self):
        self.shown(fault_of("bases", (0, 1, 2, 3), ((0, 1), (2, 3))), "('exchange', (0, 1), (2, 3), 0)")

    def test_a_fault_of_flats_and_a_matroid_by_circuits(self):
        self.shown(
            (fault_of("flats", (0, 1, 2), ((), (0,), (0, 1, 2), (1,))),
             told_by("circuits", (4, 7, 9), ((4, 7),)).bases),
            "(('cover', (), 2), ((4, 9), (7, 9)))")

    def test_a_fault_of_ranks(self):
        self.shown(fault_of("ranks", (4, 7), {(): 0, (4,): 0, (7,): 0, (4, 7): 1}), "('pair', (), 4, 7)")

    def test_a_graph_and_a_matrix(self):
        triangle = by_graph(((0, 1), (1, 2), (0, 2), (2, 2)), (3, 4, 8, 9))
        self.shown(
            [triangle.bases, triangle.loops, by_matrix(3, ((1, 0, 1, 0), (0, 1, 1, 0)), (3, 4, 8, 9)) == triangle],
            "[((3, 4), (3, 8), (4, 8)), (9,), True]")

    def test_matrices_over_3_and_over_2(self):
        rows = ((1, 0, 1, 1), (0, 1, 1, 2))
        self.shown(
            [by_matrix(3, rows, (0, 1, 2, 3)).bases, by_matrix(2, ((1, 0, 1, 1), (0, 1, 1, 0)), (0, 1, 2, 3)).bases],
            "[((0, 1), (0, 2), (0, 3), (1, 2), (1, 3), (2, 3)), ((0, 1), (0, 2), (1, 2), (1, 3), (2, 3))]")

    def test_a_family_a_truncation_and_a_sum(self):
        one = by_family(((0, 1), (1, 2), (1, 2)), (0, 1, 2, 3))
        self.shown(
            [one.bases, truncated(one).bases, summed(one, uniform(1, (5, 7))).bases],
            "[((0, 1, 2),), ((0, 1), (0, 2), (1, 2)), ((0, 1, 2, 5), (0, 1, 2, 7))]")

    def test_logs(self):
        log = (('dual',), ('delete', (0,)), ('dual',), ('delete', (2,)))
        self.shown(
            [normal_of(log, (0, 1, 2, 3)), plain_of(uniform(2, (0, 1, 2, 3)), log),
             replayed(uniform(2, (0, 1, 2, 3)), log).bases,
             plain_of(uniform(1, (0, 1, 2, 3)), (('contract', (2, 3)),))],
            "[(('contract', (0,)), ('delete', (2,))), (('contract', (0,)), ('delete', (2,))), ((1,), (3,)), "
            "(('contract', (2,)), ('delete', (3,)))]")

    def test_named_matroids(self):
        self.shown(
            [len(named('F7').bases), named('F7').circuits[0], named('K33*').rank, named('K5').circuits[:2],
             named('U25').dual() == named('U35')],
            "[28, (0, 1, 2), 4, ((0, 1, 4), (0, 1, 5, 7)), True]")

    def test_a_cut_and_an_extension(self):
        own = Matroid((0, 1, 2), ((0, 1), (0, 2), (1, 2)))
        self.shown(
            (cut_of_flats(own, ((1,),)), extended(own, 5, ((1,),)).bases, cut_of(own, 2)),
            "(((0, 1, 2), (1,)), ((0, 1), (0, 2), (0, 5), (1, 2), (2, 5)), ((0, 1),))")

    def test_all_cuts_relaxing_and_tightening(self):
        own = Matroid((0, 1, 2), ((0,), (1,)))
        self.shown(
            (cuts_of(own), relaxed(own, (2,)).bases, tightened(relaxed(own, (2,)), (0,)).bases),
            "(((), ((0, 1, 2),), ((0, 1, 2), (2,))), ((0,), (1,), (2,)), ((1,), (2,)))")

    def test_an_apart_tree_and_mappings(self):
        one, other = Matroid((0, 1), ((0, 1),)), Matroid((0, 1), ((0,),))
        self.shown(
            (apart_tree(one, other), mapping_between(one, other), mapping_between(other, Matroid((4, 7), ((7,),)))),
            "((((0, 1), (0, 1)), ((1,), (0,))), None, (7, 4))")

    def test_a_form_and_symmetries(self):
        own = Matroid((3, 5, 9, 11), ((3, 9), (3, 11), (5, 9), (5, 11), (9, 11)))
        self.shown(
            (form_of(own), symmetry_count(own)),
            "((4, ((0, 1), (0, 2), (0, 3), (1, 2), (1, 3))), 4)")

    def test_normal_matrices(self):
        self.shown(
            (binary_of(named('F7')), ternary_of(named('F7'))),
            "(((1, 0, 1, 0, 1, 0, 1), (0, 1, 1, 0, 0, 1, 1), (0, 0, 0, 1, 1, 1, 1)), None)")
        self.shown(
            (ternary_of(uniform(2, (5, 6, 7, 9))), binary_of(uniform(2, (5, 6, 7, 9)))),
            "(((1, 0, 1, 1), (0, 1, 1, 2)), None)")
        self.shown(
            ternary_of(by_graph(((0, 1), (0, 2), (0, 3), (1, 2), (1, 3), (2, 3)), (0, 1, 2, 3, 4, 5))),
            "((1, 0, 0, 1, 1, 0), (0, 1, 0, 1, 0, 1), (0, 0, 1, 0, 1, 2))")

    def test_classes(self):
        self.shown(
            [is_of(named('F7'), 'binary'), is_of(named('F7'), 'graphic'), is_of(named('K33*'), 'graphic'),
             is_of(named('K33*'), 'cographic')],
            "[True, False, False, True]")
        self.assertRaises(BadName, is_of, uniform(2, (0, 1, 2)), 'unimodular')

    def test_graphs_of_a_triangle(self):
        things = (((0, 1), (1, 2), (0, 2)), ((3, 10), (3, 9), (9, 10)), ((0, 1), (0, 1), (1, 2)),
                  ((1, 0), (1, 2), (0, 2)))
        self.shown([is_graph_of(uniform(2, (0, 1, 2)), thing) for thing in things], "[True, True, False, False]")

    def test_ways(self):
        self.shown(least_way(uniform(3, (0, 1, 2, 3, 4)), "binary"), "('U24', (0, 1, 2, 3), (4,))")
        self.shown(is_way(named("F7"), ("F7", (1, 0, 2, 3, 4, 5, 6), ())), "False")

    def test_parts_splits_and_pieces(self):
        self.shown(parts_of(Matroid((4, 7, 9), ((4, 9),))), "((4,), (7,), (9,))")
        self.shown(splits_of(uniform(3, (0, 1, 2, 3))), "((0, 1), (0, 2), (0, 3))")
        graph = by_graph(((0, 1), (1, 2), (2, 3), (0, 3), (0, 2)), (0, 1, 2, 3, 4))
        self.shown([piece.ground for piece in pieces_of(graph)], "[(0, 1, 150), (2, 3, 151), (4, 150, 151)]")
        self.shown(
            joined_of((Matroid((0, 1), ((0,), (1,))), Matroid((1, 5), ((1,), (5,))))).bases, "((0,), (5,))")
