"""What the document says over several files at once."""

import random
import unittest
from itertools import combinations

from rankwright.classes import CLASSES, binary_of, forbidden, graph_of, is_of, is_way, ternary_of
from rankwright.commons import greatest_common
from rankwright.editors import Editor, PairEditor
from rankwright.extensions import cut_of, extended, relaxed, tightened
from rankwright.likeness import apart_tree, form_of, is_apart_tree, is_mapping, mapping_between
from rankwright.logs import contracted, deleted, normal_of, plain_of, replayed
from rankwright.makers import NAMES, by_family, by_graph, by_matrix, named, summed, truncated, uniform
from rankwright.matroids import Matroid, fault_of, table_of, told_by
from rankwright.packings import greatest_packing
from rankwright.pieces import joined_of, parts_of, pieces_of, two_sum
from rankwright.texts import read, write
from tests import small, words
from tests.small import EMPTY, FIVE, FOUR, LOOPS, MIXED, TEN

ALL_SMALL = small.matroids_on_each(small.GROUNDS + [FOUR]) + small.matroids_on(FIVE)[::4]
GREAT = [named(name) for name in NAMES] + [uniform(size, TEN) for size in (0, 1, 4, 9, 10)] + [
    MIXED, EMPTY, LOOPS, truncated(named("K5")), relaxed(named("F7"), (0, 1, 2))]


class ToldInSeveralWaysTest(unittest.TestCase):

    def test_tables_tell_a_matroid_again(self):
        for matroid in ALL_SMALL + GREAT:
            many = len(matroid.ground)
            kinds = ["bases"] + (["circuits", "flats"] if many <= 8 else []) + (["ranks"] if many <= 6 else [])
            for kind in kinds:
                table = table_of(matroid, kind)
                self.assertIsNone(fault_of(kind, matroid.ground, table))
                self.assertEqual(told_by(kind, matroid.ground, table), matroid)

    def test_texts_tell_a_matroid_again(self):
        for matroid in ALL_SMALL + GREAT:
            self.assertEqual(read(write(matroid)), matroid)
            self.assertEqual(write(read(write(matroid))), write(matroid))

    def test_matrices_and_graphs_tell_a_matroid_again(self):
        for matroid in ALL_SMALL + GREAT:
            two, three, edges = binary_of(matroid), ternary_of(matroid), graph_of(matroid)
            if two is not None:
                self.assertEqual(by_matrix(2, two, matroid.ground), matroid)
            if three is not None:
                self.assertEqual(by_matrix(3, three, matroid.ground), matroid)
            if edges is not None:
                self.assertEqual(by_graph(edges, matroid.ground), matroid)
                self.assertIsNotNone(two)
                self.assertIsNotNone(three)

    def test_one_matroid_in_many_ways(self):
        ground = (2, 5, 9)
        ones = [uniform(2, ground), by_matrix(2, ((1, 0, 1), (0, 1, 1)), ground), by_matrix(3, ((1, 0, 2), (0, 1, 2)), ground),
                by_graph(((0, 1), (1, 2), (0, 2)), ground), by_family((ground, ground), ground),
                told_by("circuits", ground, (ground,)), read("ground 2 5 9\nbase 2 5\nbase 2 9\nbase 5 9"),
                truncated(uniform(3, ground)), uniform(1, ground).dual(), extended(uniform(2, (2, 5)), 9, ((2, 5),)),
                deleted(uniform(2, (2, 5, 7, 9)), (7,)), contracted(uniform(3, (2, 5, 7, 9)), (7,)),
                relaxed(Matroid(ground, ((2, 5), (2, 9))), (5, 9)), Matroid(ground, tuple(combinations(ground, 2))),
                two_sum(uniform(1, (2, 100)), uniform(2, (5, 9, 100))), Editor(uniform(2, ground)).matroid]
        for one in ones:
            for other in ones:
                self.assertEqual(one, other)
            self.assertEqual((one.circuits, one.flats, one.rank), ((ground,), ((), (2,), ground, (5,), (9,)), 2))

    def test_everything_that_is_made_is_a_matroid_without_a_fault(self):
        for matroid in ALL_SMALL[::3] + GREAT:
            made = [matroid.dual()]
            for x in matroid.ground:
                made += [deleted(matroid, (x,)), contracted(matroid, (x,))]
            if len(matroid.ground) < 10:
                made += [extended(matroid, 170, flats) for flats in ((), matroid.flats[:1], matroid.flats[-2:])]
            for one in made:
                self.assertIsNone(fault_of("bases", one.ground, one.bases))
                self.assertEqual(Matroid(one.ground, one.bases), one)
                self.assertEqual(one.rank_of(one.ground), one.rank)


class LeadBackTest(unittest.TestCase):

    def test_duals(self):
        for matroid in ALL_SMALL + GREAT:
            self.assertEqual(matroid.dual().dual(), matroid)
            for x in matroid.ground:
                self.assertEqual(deleted(matroid, (x,)).dual(), contracted(matroid.dual(), (x,)))

    def test_extensions(self):
        for matroid in ALL_SMALL:
            for x in matroid.ground:
                self.assertEqual(extended(deleted(matroid, (x,)), x, cut_of(matroid, x)), matroid)

    def test_logs_and_editors_do_the_same(self):
        for seed in range(40):
            chance = random.Random(seed)
            matroid = chance.choice(ALL_SMALL + [named("F7"), MIXED])
            editor, log, left = Editor(matroid), [], list(matroid.ground)
            for _ in range(6):
                kind = chance.choice(("delete", "contract", "dual"))
                if kind == "dual":
                    log.append(("dual",))
                    editor.turn()
                elif left:
                    element = left.pop(chance.randrange(len(left)))
                    log.append((kind, (element,)))
                    getattr(editor, kind)(element)
            log = tuple(log)
            self.assertEqual(replayed(matroid, log), editor.matroid)
            self.assertEqual(replayed(matroid, normal_of(log, matroid.ground)), editor.matroid)
            self.assertEqual(replayed(matroid, plain_of(matroid, log)), editor.matroid)
            for _ in log:
                editor.undo()
            self.assertEqual((editor.matroid, editor.undoable), (matroid, 0))

    def test_relaxing_and_tightening(self):
        for matroid in ALL_SMALL:
            for members in matroid.circuits:
                if members in matroid.hyperplanes:
                    made = relaxed(matroid, members)
                    self.assertEqual(tightened(made, members), matroid)
                    self.assertEqual(made.dual(), relaxed(matroid.dual(), words.without(matroid.ground, *members)))

    def test_parts_and_pieces(self):
        for matroid in ALL_SMALL:
            joined = EMPTY
            for part in parts_of(matroid):
                joined = summed(joined, deleted(matroid, words.without(matroid.ground, *part)))
            self.assertEqual(joined, matroid)
        for matroid in small.matroids_on((1, 10, 100, 101, 149))[::3]:
            if len(parts_of(matroid)) == 1:
                self.assertEqual(joined_of(pieces_of(matroid)), matroid)


class AnswersThatAgreeTest(unittest.TestCase):

    def test_verdicts_agree_with_matrices_graphs_and_ways(self):
        for matroid in ALL_SMALL[::2] + GREAT:
            verdicts = Editor(matroid).verdicts
            found = {"binary": binary_of(matroid), "ternary": ternary_of(matroid), "graphic": graph_of(matroid),
                     "cographic": graph_of(matroid.dual())}
            for name in CLASSES:
                self.assertEqual(verdicts[name] == ("yes",), is_of(matroid, name))
                if name in found:
                    self.assertEqual(verdicts[name] == ("yes",), found[name] is not None)
                if verdicts[name] != ("yes",):
                    self.assertIs(is_way(matroid, verdicts[name][1]), True)
                    self.assertIn(verdicts[name][1][0], forbidden(name))

    def test_forms_mappings_and_apart_trees(self):
        ones, others = small.matroids_on(FOUR)[::5], small.matroids_on((0, 1, 2, 199))[::4]
        for one in ones:
            for other in others:
                mapping, tree = mapping_between(one, other), apart_tree(one, other)
                self.assertEqual(form_of(one) == form_of(other), mapping is not None)
                self.assertEqual(tree is None, mapping is not None)
                self.assertEqual(PairEditor(one, other).mapping, mapping)
                self.assertIs(is_mapping(one, other, mapping), mapping is not None)
                self.assertIs(is_apart_tree(one, other, tree), tree is not None)

    def test_packings_of_two_and_common_sets_with_the_dual(self):
        for matroid in ALL_SMALL + GREAT:
            packed = sum(map(len, greatest_packing(matroid, 2)))
            self.assertEqual(packed, matroid.rank + len(greatest_common(matroid, matroid.dual())))

    def test_named_ones_stay_as_they_are_whatever_is_done_with_them(self):
        before = [(named(name).ground, named(name).bases) for name in NAMES]
        for name in NAMES:
            editor = Editor(named(name))
            editor.turn(), editor.delete(0), editor.undo()
            table = table_of(named(name), "bases")
            self.assertEqual(table, named(name).bases)
        self.assertEqual([(named(name).ground, named(name).bases) for name in NAMES], before)

    def test_changing_a_table_of_ranks_changes_nothing(self):
        matroid = uniform(2, FOUR)
        table = table_of(matroid, "ranks")
        table[()] = 7
        table.clear()
        self.assertEqual(table_of(matroid, "ranks")[()], 0)
        self.assertEqual((matroid.rank_of(()), matroid.circuits), (0, tuple(combinations(FOUR, 3))))
