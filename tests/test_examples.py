"""The worked examples of DOC.md, as they stand there."""

import unittest

from rankwright.matroids import Matroid, fault_of, told_by


class ExamplesTest(unittest.TestCase):

    def shown(self, result, text):
        self.assertEqual(repr(result), text)

    def test_a_matroid_with_a_loop(self):
        matroid = Matroid((0, 1, 2, 3), ((0, 1), (0, 2), (1, 2)))
        self.shown(
            (matroid.rank, matroid.circuits, matroid.hyperplanes, matroid.loops, matroid.closure_of((0,))),
            "(2, ((0, 1, 2), (3,)), ((0, 3), (1, 3), (2, 3)), (3,), (0, 3))")

    def test_fundamental_circuit_and_dual(self):
        matroid = Matroid((1, 3, 6, 8), ((1, 3), (1, 8), (3, 8)))
        self.shown(
            (matroid.fundamental((1, 3), 8), matroid.circuit_in((1, 6, 8)), matroid.dual().bases),
            "((1, 3, 8), (6,), ((1, 6), (3, 6), (6, 8)))")

    def test_a_fault_of_bases(self):
        self.shown(fault_of("bases", (0, 1, 2, 3), ((0, 1), (2, 3))), "('exchange', (0, 1), (2, 3), 0)")

    def test_a_fault_of_flats_and_a_matroid_by_circuits(self):
        self.shown(
            (fault_of("flats", (0, 1, 2), ((), (0,), (0, 1, 2), (1,))),
             told_by("circuits", (4, 7, 9), ((4, 7),)).bases),
            "(('cover', (), 2), ((4, 9), (7, 9)))")

    def test_a_fault_of_ranks(self):
        self.shown(fault_of("ranks", (4, 7), {(): 0, (4,): 0, (7,): 0, (4, 7): 1}), "('pair', (), 4, 7)")
