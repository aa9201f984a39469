import copy
import unittest
from itertools import combinations

from rankwright.errors import BadGround, BadMatroid, BadName, BadSets, BadTable, TooMany
from rankwright.matroids import Matroid, fault_of, table_of, told_by
from tests import words, wrong

KINDS = ("bases", "circuits", "ranks", "flats")
GROUNDS = [(), (7,), (0, 199), (2, 3, 5), (0, 7, 8, 150)]
NO_KINDS = wrong.OTHERS + [
    (), ("bases",), b"bases", "base", "Bases", "bases ", "rank", "independent", "hyperplanes"]
NO_GROUNDS = wrong.NO_SETS + [tuple(range(11))]


def uniform(size, ground):
    return Matroid(ground, tuple(combinations(ground, size)))


def a_table(kind, ground):
    """A table without a fault: that of the matroid without dependent sets."""
    return words.table(kind, ground, (ground,))


class ThereAndBackTest(unittest.TestCase):

    def test_tables_are_those_of_the_words_and_lead_back(self):
        for ground in GROUNDS:
            for bases in words.all_bases(ground):
                matroid = Matroid(ground, bases)
                for kind in KINDS:
                    with self.subTest(kind=kind, ground=ground, bases=bases):
                        table = table_of(matroid, kind)
                        self.assertEqual(table, words.table(kind, ground, bases))
                        self.assertIsNone(fault_of(kind, ground, table))
                        self.assertEqual(told_by(kind, ground, table), matroid)

    def test_five_and_six_elements(self):
        for ground in ((1, 10, 100, 101, 199), (0, 1, 2, 3, 4, 198)):
            for size in range(len(ground) + 1):
                matroid = uniform(size, ground)
                for kind in KINDS:
                    with self.subTest(kind=kind, ground=ground, size=size):
                        self.assertEqual(told_by(kind, ground, table_of(matroid, kind)), matroid)

    def test_eight_elements(self):
        ground = tuple(range(8))
        for size in range(9):
            matroid = uniform(size, ground)
            for kind in ("bases", "circuits", "flats"):
                with self.subTest(kind=kind, size=size):
                    self.assertEqual(told_by(kind, ground, table_of(matroid, kind)), matroid)

    def test_arguments_by_name(self):
        self.assertIsNone(fault_of(table=((1,), (2,)), kind="bases", ground=(1, 2)))
        self.assertEqual(told_by(table=((1, 2),), ground=(1, 2), kind="circuits").bases, ((1,), (2,)))
        self.assertEqual(table_of(kind="flats", matroid=Matroid((1, 2), ((1,), (2,)))), ((), (1, 2)))

    def test_kinds_of_values(self):
        matroid = Matroid((1, 2), ((1,), (2,)))
        for kind in ("bases", "circuits", "flats"):
            self.assertIs(type(table_of(matroid, kind)), tuple)
        self.assertIs(type(table_of(matroid, "ranks")), dict)
        self.assertIs(type(told_by("bases", (1, 2), ((1,), (2,)))), Matroid)


class ToldByTest(unittest.TestCase):

    def test_a_fault_is_raised_as_it_is_told(self):
        for kind in ("bases", "circuits", "flats"):
            for table in words.families(words.sets_within((2, 5, 9))):
                fault = words.fault(kind, (2, 5, 9), table)
                with self.subTest(kind=kind, table=table):
                    if fault is None:
                        self.assertEqual(table_of(told_by(kind, (2, 5, 9), table), kind), table)
                    else:
                        with self.assertRaises(BadTable) as caught:
                            told_by(kind, (2, 5, 9), table)
                        self.assertEqual(caught.exception.fault, fault)

    def test_a_fault_of_ranks(self):
        with self.assertRaises(BadTable) as caught:
            told_by("ranks", (4, 7), {(): 0, (4,): 0, (7,): 0, (4, 7): 1})
        self.assertEqual(caught.exception.fault, ("pair", (), 4, 7))


class UntouchedTest(unittest.TestCase):

    def test_what_is_handed_in_stays_as_it_was(self):
        for table in ({(4, 7): 1, (7,): 1, (): 0, (4,): 1}, {(4, 7): 1, (7,): 0, (): 0, (4,): 0}):
            before = copy.deepcopy(table)
            order = list(table)
            fault_of("ranks", (4, 7), table)
            if fault_of("ranks", (4, 7), table) is None:
                told_by("ranks", (4, 7), table)
            self.assertEqual((table, list(table)), (before, order))

    def test_what_is_wrong_stays_as_it_was(self):
        for table in ({(): 0, (True,): 1}, {(): 0}, {}, {(): 0, (1,): True}, {(): 0, (1,): -1}):
            before = [(repr(key), repr(table[key])) for key in table]
            self.assertRaises(BadSets, fault_of, "ranks", (1,), table)
            self.assertEqual([(repr(key), repr(table[key])) for key in table], before)
        for table in ([(0,)], [[0]]):
            before = copy.deepcopy(table)
            self.assertRaises(BadSets, fault_of, "bases", (0,), table)
            self.assertEqual(table, before)

    def test_a_returned_dict_may_be_changed(self):
        matroid = Matroid((4, 7), ((4,), (7,)))
        table = table_of(matroid, "ranks")
        table[(4,)] = 5
        del table[()]
        self.assertEqual(table_of(matroid, "ranks"), {(): 0, (4,): 1, (7,): 1, (4, 7): 1})
        self.assertEqual((matroid.rank_of((4,)), matroid.rank_of(())), (1, 0))

    def test_a_dict_may_be_changed_after_it_told_a_matroid(self):
        table = {(): 0, (4,): 1, (7,): 1, (4, 7): 1}
        matroid = told_by("ranks", (4, 7), table)
        table[(4, 7)] = 2
        self.assertEqual((matroid.bases, matroid.rank_of((4, 7))), (((4,), (7,)), 1))


class WrongValuesTest(unittest.TestCase):

    def both_raise(self, error, kind, ground, table):
        caught = []
        for function in (fault_of, told_by):
            with self.subTest(function=function.__name__, values=(type(kind), type(ground), type(table))):
                with self.assertRaises(error) as one:
                    function(kind, ground, table)
                with self.assertRaises(error) as other:
                    function(table=table, ground=ground, kind=kind)
                caught += [one.exception, other.exception]
        return caught

    def test_what_is_no_kind(self):
        for kind in NO_KINDS:
            self.both_raise(BadName, kind, (0, 1), ((0,), (1,)))

    def test_what_is_no_ground(self):
        for kind in KINDS:
            for ground in NO_GROUNDS:
                self.both_raise(BadGround, kind, ground, ())

    def test_too_many(self):
        for kind, most in (("ranks", 6), ("circuits", 8), ("flats", 8)):
            for ground in (tuple(range(most + 1)), tuple(range(190, 200))):
                for table in (a_table(kind, ground), None, (), {}):
                    for caught in self.both_raise(TooMany, kind, ground, table):
                        self.assertEqual(caught.most, most)

    def test_just_not_too_many(self):
        for kind, most in (("ranks", 6), ("circuits", 8), ("flats", 8), ("bases", 10)):
            ground = tuple(range(200 - most, 200))
            with self.subTest(kind=kind):
                self.assertIsNone(fault_of(kind, ground, a_table(kind, ground)))
                self.assertEqual(told_by(kind, ground, a_table(kind, ground)).bases, (ground,))

    def test_what_is_no_tuple_of_sets(self):
        for kind in ("bases", "circuits", "flats"):
            for ground in ((), (1,), (0, 1, 5)):
                for table in wrong.no_tuples_of_sets(ground):
                    self.both_raise(BadSets, kind, ground, table)

    def test_what_is_no_dict_of_ranks(self):
        for thing in wrong.OTHERS + [(), ((),), (((), 0),)]:
            self.both_raise(BadSets, "ranks", (0,), thing)

    def test_keys_that_are_not_just_the_sets(self):
        self.both_raise(BadSets, "ranks", (), {})
        self.both_raise(BadSets, "ranks", (), {(): 0, (0,): 1})
        self.both_raise(BadSets, "ranks", (1, 2), {(): 0, (1,): 1, (2,): 1})
        self.both_raise(BadSets, "ranks", (1, 2), {(): 0, (1,): 1, (2,): 1, (1, 2): 2, (3,): 1})
        for key in (None, 1, "1", b"1", (3,), (2, 1), (1, 1), (1.0,), (True,), frozenset((1,)), (1, 2.0), (None,)):
            self.both_raise(BadSets, "ranks", (1, 2), {(): 0, key: 1, (2,): 1, (1, 2): 2})

    def test_keys_with_truth_values(self):
        self.both_raise(BadSets, "ranks", (1, 2), {(): 0, (True,): 1, (2,): 1, (1, 2): 2})
        self.both_raise(BadSets, "ranks", (0,), {(): 0, (False,): 1})

    def test_ranks_that_are_no_integers_from_0_on(self):
        for rank in wrong.NO_INTEGERS + [-1, -10 ** 40]:
            self.both_raise(BadSets, "ranks", (1,), {(): 0, (1,): rank})
            self.both_raise(BadSets, "ranks", (1,), {(): rank, (1,): 0})

    def test_great_ranks_are_integers(self):
        for rank in (200, 10 ** 40):
            self.assertEqual(fault_of("ranks", (1,), {(): 0, (1,): rank}), ("step", (), 1))
            self.assertEqual(fault_of("ranks", (1,), {(): rank, (1,): 0}), ("start",))

    def test_the_order_of_the_errors(self):
        seven, nine = tuple(range(7)), tuple(range(9))
        self.both_raise(BadName, "rank", [0], None)
        self.both_raise(BadName, None, nine, None)
        self.both_raise(BadGround, "ranks", [0], None)
        self.both_raise(BadGround, "circuits", tuple(range(11)), None)
        self.both_raise(TooMany, "ranks", seven, None)
        self.both_raise(TooMany, "flats", nine, [()])
        self.both_raise(BadSets, "circuits", seven, ((), (9,)))
        self.both_raise(BadSets, "bases", nine, ((0,), (0, 1), [2]))
        self.both_raise(BadSets, "ranks", (0, 1), {(): 5, (0,): 0, (1,): 0})
        self.assertRaises(BadTable, told_by, "circuits", (0,), ((),))


class TableOfTest(unittest.TestCase):

    def test_what_is_no_matroid(self):
        for thing in wrong.OTHERS + [(), ((0, 1), ((0,), (1,))), Matroid]:
            for kind in KINDS + ("rank",):
                with self.subTest(kind=kind, thing=type(thing).__name__):
                    self.assertRaises(BadMatroid, table_of, thing, kind)
                    self.assertRaises(BadMatroid, table_of, kind=kind, matroid=thing)

    def test_what_is_no_kind(self):
        for matroid in (uniform(1, (0, 1)), uniform(5, tuple(range(10)))):
            for kind in NO_KINDS:
                with self.subTest(kind=type(kind).__name__):
                    self.assertRaises(BadName, table_of, matroid, kind)
                    self.assertRaises(BadName, table_of, kind=kind, matroid=matroid)

    def test_too_many_for_ranks(self):
        for many in (7, 10):
            with self.assertRaises(TooMany) as caught:
                table_of(uniform(3, tuple(range(many))), "ranks")
            self.assertEqual(caught.exception.most, 6)
        self.assertEqual(len(table_of(uniform(3, tuple(range(6))), "ranks")), 64)

    def test_other_tables_of_larger_ones(self):
        ten = tuple(range(10))
        matroid = uniform(9, ten)
        self.assertEqual(table_of(matroid, "bases"), tuple(combinations(ten, 9)))
        self.assertEqual(table_of(matroid, "circuits"), (ten,))
        self.assertEqual(len(table_of(matroid, "flats")), 1024 - 10)
