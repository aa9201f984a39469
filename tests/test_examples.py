"""The worked examples of DOC.md, as they stand there."""

import unittest

from rankwright.classes import binary_of, is_graph_of, is_of, is_way, least_way, ternary_of
from rankwright.commons import greatest_common, is_cover, least_cover
from rankwright.editors import Editor, PairEditor
from rankwright.errors import BadName, NotRelaxable
from rankwright.extensions import cut_of, cut_of_flats, cuts_of, extended, relaxed, tightened
from rankwright.likeness import apart_tree, form_of, mapping_between, symmetry_count
from rankwright.logs import normal_of, plain_of, replayed
from rankwright.makers import by_family, by_graph, by_matrix, named, summed, truncated, uniform
from rankwright.matroids import Matroid, fault_of, told_by
from rankwright.packings import (
    are_families, chain_of, even_families, greatest_packing, is_bound, is_packing, least_bound,
)
from rankwright.pieces import joined_of, parts_of, pieces_of, splits_of
from rankwright.texts import read, write


class ExamplesTest(unittest.TestCase):

    def shown(self, result, text):
        self.assertEqual(repr(result), text)

    def test_a_matroid_with_a_loop(self):
        matroid = Matroid((0, 1, 2, 3), ((0, 1), (0, 2), (1, 2)))
        self.shown(
            (matroid.rank, matroid.circuits, matroid.hyperplanes, matroid.loops, matroid.closure_of((0,))),
            "(2, ((0, 1, 2), (3,)), ((0, 3), (1, 3), (2, 3)), (3,), (0, 3))")

    def test_fundamental_circuit_and_dual(self):
        matroid = Matroid((1, 3, 6, 8), ((1, 3), (1, 8), (3, 8)))
        self.shown(
            (matroid.fundamental((1, 3), 8), matroid.circuit_in((1, 6, 8)), matroid.dual().bases),
            "((1, 3, 8), (6,), ((1, 6), (3, 6), (6, 8)))")

    def test_a_fault_of_bases(self):
        self.shown(fault_of("bases", (0, 1, 2, 3), ((0, 1), (2, 3))), "('exchange', (0, 1), (2, 3), 0)")

    def test_a_fault_of_flats_and_a_matroid_by_circuits(self):
        self.shown(
            (fault_of("flats", (0, 1, 2), ((), (0,), (0, 1, 2), (1,))),
             told_by("circuits", (4, 7, 9), ((4, 7),)).bases),
            "(('cover', (), 2), ((4, 9), (7, 9)))")

    def test_a_fault_of_ranks(self):
        self.shown(fault_of("ranks", (4, 7), {(): 0, (4,): 0, (7,): 0, (4, 7): 1}), "('pair', (), 4, 7)")

    def test_a_graph_and_a_matrix(self):
        triangle = by_graph(((0, 1), (1, 2), (0, 2), (2, 2)), (3, 4, 8, 9))
        self.shown(
            [triangle.bases, triangle.loops, by_matrix(3, ((1, 0, 1, 0), (0, 1, 1, 0)), (3, 4, 8, 9)) == triangle],
            "[((3, 4), (3, 8), (4, 8)), (9,), True]")

    def test_matrices_over_3_and_over_2(self):
        rows = ((1, 0, 1, 1), (0, 1, 1, 2))
        self.shown(
            [by_matrix(3, rows, (0, 1, 2, 3)).bases, by_matrix(2, ((1, 0, 1, 1), (0, 1, 1, 0)), (0, 1, 2, 3)).bases],
            "[((0, 1), (0, 2), (0, 3), (1, 2), (1, 3), (2, 3)), ((0, 1), (0, 2), (1, 2), (1, 3), (2, 3))]")

    def test_a_family_a_truncation_and_a_sum(self):
        one = by_family(((0, 1), (1, 2), (1, 2)), (0, 1, 2, 3))
        self.shown(
            [one.bases, truncated(one).bases, summed(one, uniform(1, (5, 7))).bases],
            "[((0, 1, 2),), ((0, 1), (0, 2), (1, 2)), ((0, 1, 2, 5), (0, 1, 2, 7))]")

    def test_logs(self):
        log = (('dual',), ('delete', (0,)), ('dual',), ('delete', (2,)))
        self.shown(
            [normal_of(log, (0, 1, 2, 3)), plain_of(uniform(2, (0, 1, 2, 3)), log),
             replayed(uniform(2, (0, 1, 2, 3)), log).bases,
             plain_of(uniform(1, (0, 1, 2, 3)), (('contract', (2, 3)),))],
            "[(('contract', (0,)), ('delete', (2,))), (('contract', (0,)), ('delete', (2,))), ((1,), (3,)), "
            "(('contract', (2,)), ('delete', (3,)))]")

    def test_named_matroids(self):
        self.shown(
            [len(named('F7').bases), named('F7').circuits[0], named('K33*').rank, named('K5').circuits[:2],
             named('U25').dual() == named('U35')],
            "[28, (0, 1, 2), 4, ((0, 1, 4), (0, 1, 5, 7)), True]")

    def test_a_cut_and_an_extension(self):
        own = Matroid((0, 1, 2), ((0, 1), (0, 2), (1, 2)))
        self.shown(
            (cut_of_flats(own, ((1,),)), extended(own, 5, ((1,),)).bases, cut_of(own, 2)),
            "(((0, 1, 2), (1,)), ((0, 1), (0, 2), (0, 5), (1, 2), (2, 5)), ((0, 1),))")

    def test_all_cuts_relaxing_and_tightening(self):
        own = Matroid((0, 1, 2), ((0,), (1,)))
        self.shown(
            (cuts_of(own), relaxed(own, (2,)).bases, tightened(relaxed(own, (2,)), (0,)).bases),
            "(((), ((0, 1, 2),), ((0, 1, 2), (2,))), ((0,), (1,), (2,)), ((1,), (2,)))")

    def test_an_apart_tree_and_mappings(self):
        one, other = Matroid((0, 1), ((0, 1),)), Matroid((0, 1), ((0,),))
        self.shown(
            (apart_tree(one, other), mapping_between(one, other), mapping_between(other, Matroid((4, 7), ((7,),)))),
            "((((0, 1), (0, 1)), ((1,), (0,))), None, (7, 4))")

    def test_a_form_and_symmetries(self):
        own = Matroid((3, 5, 9, 11), ((3, 9), (3, 11), (5, 9), (5, 11), (9, 11)))
        self.shown(
            (form_of(own), symmetry_count(own)),
            "((4, ((0, 1), (0, 2), (0, 3), (1, 2), (1, 3))), 4)")

    def test_normal_matrices(self):
        self.shown(
            (binary_of(named('F7')), ternary_of(named('F7'))),
            "(((1, 0, 1, 0, 1, 0, 1), (0, 1, 1, 0, 0, 1, 1), (0, 0, 0, 1, 1, 1, 1)), None)")
        self.shown(
            (ternary_of(uniform(2, (5, 6, 7, 9))), binary_of(uniform(2, (5, 6, 7, 9)))),
            "(((1, 0, 1, 1), (0, 1, 1, 2)), None)")
        self.shown(
            ternary_of(by_graph(((0, 1), (0, 2), (0, 3), (1, 2), (1, 3), (2, 3)), (0, 1, 2, 3, 4, 5))),
            "((1, 0, 0, 1, 1, 0), (0, 1, 0, 1, 0, 1), (0, 0, 1, 0, 1, 2))")

    def test_classes(self):
        self.shown(
            [is_of(named('F7'), 'binary'), is_of(named('F7'), 'graphic'), is_of(named('K33*'), 'graphic'),
             is_of(named('K33*'), 'cographic')],
            "[True, False, False, True]")
        self.assertRaises(BadName, is_of, uniform(2, (0, 1, 2)), 'unimodular')

    def test_graphs_of_a_triangle(self):
        things = (((0, 1), (1, 2), (0, 2)), ((3, 10), (3, 9), (9, 10)), ((0, 1), (0, 1), (1, 2)),
                  ((1, 0), (1, 2), (0, 2)))
        self.shown([is_graph_of(uniform(2, (0, 1, 2)), thing) for thing in things], "[True, True, False, False]")

    def test_ways(self):
        self.shown(least_way(uniform(3, (0, 1, 2, 3, 4)), "binary"), "('U24', (0, 1, 2, 3), (4,))")
        self.shown(is_way(named("F7"), ("F7", (1, 0, 2, 3, 4, 5, 6), ())), "False")

    def test_parts_splits_and_pieces(self):
        self.shown(parts_of(Matroid((4, 7, 9), ((4, 9),))), "((4,), (7,), (9,))")
        self.shown(splits_of(uniform(3, (0, 1, 2, 3))), "((0, 1), (0, 2), (0, 3))")
        graph = by_graph(((0, 1), (1, 2), (2, 3), (0, 3), (0, 2)), (0, 1, 2, 3, 4))
        self.shown([piece.ground for piece in pieces_of(graph)], "[(0, 1, 150), (2, 3, 151), (4, 150, 151)]")
        self.shown(
            joined_of((Matroid((0, 1), ((0,), (1,))), Matroid((1, 5), ((1,), (5,))))).bases, "((0,), (5,))")

    def test_a_text(self):
        self.shown(write(read("ground 7 199\nbase 7\nbase 199")), repr("ground 7 199\nbase 7\nbase 199"))

    def test_common_sets(self):
        one = Matroid((0, 1, 2, 3), ((0, 2), (0, 3), (1, 2), (1, 3)))
        other = Matroid((0, 1, 2, 3), ((0, 1), (0, 3), (1, 2), (2, 3)))
        self.shown(
            (greatest_common(one, other), least_cover(one, other), is_cover(one, other, (0, 3), (0, 1, 2, 3))),
            "((0, 3), (), True)")

    def test_chains_and_bounds(self):
        own = by_graph(((0, 1), (0, 2), (0, 3), (1, 2), (1, 3), (2, 3)), (0, 1, 2, 3, 4, 5))
        self.shown(
            (chain_of(own), least_bound(own, 1), least_bound(own, 2), [len(one) for one in greatest_packing(own, 2)]),
            "(((), (0, 1, 2, 3, 4, 5)), (0, 1, 2, 3, 4, 5), (), [3, 3])")
        self.shown(
            chain_of(by_graph(((0, 1), (0, 1), (0, 1), (2, 3), (3, 4), (2, 4), (5, 6)), (0, 2, 4, 6, 8, 10, 12))),
            "((), (0, 2, 4), (0, 2, 4, 6, 8, 10), (0, 2, 4, 6, 8, 10, 12))")

    def test_even_families(self):
        own = uniform(2, (0, 1, 2))
        self.shown(
            (even_families(own), are_families(own, ((), (0,), (0, 1, 2)), (((0,),), ((1,), (2,))))),
            "((((0, 1), (0, 2), (1, 2)),), False)")

    def test_a_bound_and_a_packing(self):
        own = Matroid((3, 7, 9), ((3,), (7,)))
        self.shown(
            (least_bound(own, 2), is_bound(own, 2, ((3,), (7,)), (3, 7, 9)), is_packing(own, 2, ((3,), (3,)))),
            "((9,), True, False)")

    def test_an_editor_that_contracts(self):
        editor = Editor(Matroid((0, 1, 2, 3), ((0, 1), (0, 2), (0, 3), (1, 2), (1, 3), (2, 3))))
        self.shown(
            [editor.verdicts['binary'], editor.verdicts['ternary'], editor.contract(1), editor.verdicts['binary'],
             editor.stayed],
            "[('no', ('U24', (0, 1, 2, 3), ())), ('yes',), (((0,), (2,), (3,)), ((0, 1), (0, 2), (0, 3), (1, 2), "
            "(1, 3), (2, 3)), ((0, 2), (0, 3), (2, 3)), ((0, 1, 2), (0, 1, 3), (0, 2, 3), (1, 2, 3)), (0, 2)), "
            "('yes',), ('ternary',)]")

    def test_an_editor_that_relaxes_and_tightens(self):
        editor = Editor(Matroid((0, 1, 2), ((0, 1), (0, 2))))
        self.shown(
            [editor.relax((1, 2)), editor.tighten((1, 2)), editor.grow(5, ())[0], editor.undoable],
            "[(((1, 2),), (), ((0, 1, 2),), ((1, 2),), (1, 2)), ((), ((1, 2),), ((1, 2),), ((0, 1, 2),), (1, 2)), "
            "((0, 1, 5), (0, 2, 5)), 3]")
        editor = Editor(Matroid((0, 1, 2), ((0, 1), (0, 2))))
        self.assertRaises(NotRelaxable, editor.relax, (0, 1))

    def test_a_pair_editor(self):
        pair = PairEditor(Matroid((0, 1, 2), ((0, 2), (1, 2))), Matroid((4, 5, 6), ((4, 5), (4, 6))))
        self.shown(
            [pair.mapping, pair.delete(0, 5), pair.mapping, pair.contract(1, 4), pair.mapping],
            "[(5, 6, 4), 'kept', (6, 4), 'new', (6,)]")

    def test_an_editor_that_turns(self):
        editor = Editor(Matroid((0, 1, 2, 3), ((0, 1), (0, 2), (0, 3), (1, 2), (1, 3), (2, 3))))
        self.shown(
            [editor.turn(), editor.stayed, editor.undo(), editor.stayed],
            "[((), (), (), (), None), ('binary', 'cographic', 'graphic', 'planar', 'regular', 'ternary'), "
            "((), (), (), (), None), ('binary', 'cographic', 'graphic', 'planar', 'regular', 'ternary')]")
