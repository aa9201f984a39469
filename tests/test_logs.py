import copy
import unittest
from itertools import combinations

from rankwright.errors import BadGround, BadMatroid, BadSet, BadStep
from rankwright.logs import contracted, deleted, normal_of, plain_of, replayed
from rankwright.makers import named, uniform
from rankwright.matroids import Matroid, table_of
from tests import making_words, small, words, wrong
from tests.small import EMPTY, FIVE, FOUR, LOOPS, MIXED, TEN

THREE = (2, 5, 199)
NO_GROUNDS = wrong.NO_SETS + [tuple(range(11))]
TURN = ("dual",)


class DeletedAndContractedTest(unittest.TestCase):

    def compared(self, matroid, gone):
        ground, bases = matroid.ground, matroid.bases
        for function, ranks in ((deleted, making_words.ranks_without), (contracted, making_words.ranks_after_contracting)):
            made = function(matroid, gone)
            self.assertIs(type(made), Matroid)
            self.assertEqual(made.ground, words.without(ground, *gone))
            self.assertEqual(words.ranks(made.ground, made.bases), ranks(ground, bases, gone), (bases, gone))

    def test_all_small_matroids(self):
        for matroid in small.matroids_on_each(small.GROUNDS + [FOUR, FIVE]):
            for gone in words.sets_within(matroid.ground):
                self.compared(matroid, gone)

    def test_deleting_leaves_the_same_independent_sets(self):
        for matroid in small.matroids_on(FOUR):
            for gone in words.sets_within(FOUR):
                left = deleted(matroid, gone)
                for members in words.sets_within(left.ground):
                    self.assertIs(left.is_independent(members), matroid.is_independent(members))

    def test_larger_ones(self):
        for name in ("F7", "F7*", "K33"):
            matroid = named(name)
            for gone in words.sets_within(matroid.ground)[::41]:
                self.compared(matroid, gone)
        for size in (0, 1, 5, 9, 10):
            self.assertEqual(deleted(uniform(size, TEN), (0, 9)), uniform(min(size, 8), TEN[1:9]))
            self.assertEqual(contracted(uniform(size, TEN), (0, 9)), uniform(max(size - 2, 0), TEN[1:9]))

    def test_loops_coloops_nothing_and_everything(self):
        for gone in ((3,), (9,)):
            self.assertEqual(deleted(MIXED, gone), contracted(MIXED, gone))
        for matroid in (MIXED, EMPTY, LOOPS):
            for function in (deleted, contracted):
                self.assertEqual(function(matroid, ()), matroid)
                self.assertEqual(function(matroid, matroid.ground), EMPTY)
        self.assertEqual(contracted(MIXED, (4,)).loops, (3, 7))

    def test_arguments_by_name(self):
        self.assertEqual(deleted(members=(8, 9), matroid=MIXED).bases, ((4,), (7,)))
        self.assertEqual(contracted(members=(8, 9), matroid=MIXED).bases, ((4,), (7,)))

    def test_what_is_no_matroid(self):
        for thing in small.NO_MATROIDS:
            for function in (deleted, contracted):
                with self.subTest(function=function.__name__, kind=type(thing).__name__):
                    self.assertRaises(BadMatroid, function, thing, ())
                    self.assertRaises(BadMatroid, function, members=None, matroid=thing)

    def test_what_is_no_set(self):
        for matroid in (MIXED, EMPTY, LOOPS):
            for thing in wrong.no_sets_within(matroid.ground):
                for function in (deleted, contracted):
                    with self.subTest(function=function.__name__, kind=type(thing).__name__):
                        self.assertRaises(BadSet, function, matroid, thing)
                        self.assertRaises(BadSet, function, members=thing, matroid=matroid)

    def test_truth_values_and_lists(self):
        for thing in ((True,), (False, 1), [0], [], (1, 0), (2,), 0, (0.0,)):
            for function in (deleted, contracted):
                self.assertRaises(BadSet, function, uniform(1, (0, 1)), thing)

    def test_the_matroid_stays_as_it_was(self):
        matroid = uniform(2, THREE)
        deleted(matroid, (5,)), contracted(matroid, (5,)), replayed(matroid, (TURN, ("delete", (5,))))
        plain_of(matroid, (TURN, ("delete", (5,))))
        self.assertRaises(BadSet, deleted, matroid, (0,))
        self.assertRaises(BadStep, replayed, matroid, (("delete", (5,)), ("delete", (5,))))
        self.assertEqual((matroid.ground, matroid.bases), (THREE, tuple(combinations(THREE, 2))))
        self.assertEqual(table_of(matroid, "ranks"), words.ranks(THREE, tuple(combinations(THREE, 2))))


class LogsTest(unittest.TestCase):

    def compared(self, matroid, log):
        told = (matroid.bases, log)
        made = replayed(matroid, log)
        wanted = making_words.after_log(matroid.ground, matroid.bases, log)
        self.assertIs(type(made), Matroid)
        self.assertEqual((made.ground, made.bases), wanted, told)
        self.assertEqual(normal_of(log, matroid.ground), making_words.normal_log(log), told)
        self.assertEqual(plain_of(matroid, log), making_words.plain_log(matroid.ground, matroid.bases, log), told)

    def test_all_logs_of_up_to_two_steps(self):
        for ground in small.GROUNDS:
            logs = [log for many in range(3) for log in making_words.logs(ground, many)]
            for matroid in small.matroids_on(ground):
                for log in logs:
                    self.compared(matroid, log)

    def test_all_logs_of_three_and_four_steps_on_two_elements(self):
        logs = [log for many in (3, 4) for log in making_words.logs((0, 199), many)]
        for matroid in small.matroids_on((0, 199)):
            for log in logs:
                self.compared(matroid, log)

    def test_three_steps_on_three_elements(self):
        for matroid in small.matroids_on(THREE):
            for log in list(making_words.logs(THREE, 3))[::5]:
                self.compared(matroid, log)

    def test_four_and_five_elements(self):
        for ground, logs_step, step in ((FOUR, 97, 1), (FIVE, 731, 9)):
            logs = [log for many in (1, 2, 3) for log in list(making_words.logs(ground, many))[::logs_step]]
            for matroid in small.matroids_on(ground)[::step]:
                for log in logs[::7]:
                    self.compared(matroid, log)

    def test_steps_with_empty_sets(self):
        log = (("delete", ()), TURN, ("contract", ()), TURN, ("delete", (9,)), ("contract", ()))
        self.compared(MIXED, log)
        self.assertEqual(normal_of(log, MIXED.ground), (("delete", (9,)),))
        self.assertEqual(normal_of((("delete", ()), ("contract", ())), ()), ())
        self.assertEqual(normal_of((TURN,), ()), (TURN,))

    def test_the_order_of_the_normal_steps(self):
        log = (TURN, ("contract", (2,)), ("delete", (5,)), ("contract", (0,)), ("delete", (1,)))
        self.assertEqual(normal_of(log, (0, 1, 2, 5, 7)), (("contract", (1, 5)), ("delete", (0, 2)), TURN))

    def test_twenty_steps(self):
        self.assertEqual(normal_of((TURN,) * 20, ()), ())
        self.assertEqual(normal_of((TURN,) * 19, (4,)), (TURN,))
        self.compared(uniform(4, TEN[::2]), (TURN,) * 11 + (("delete", (2, 4)),) + (TURN,) * 8)
        log = tuple(step for one in TEN for step in (("delete" if one % 3 else "contract", (one,)), TURN))
        self.assertEqual(normal_of(log, TEN), making_words.normal_log(log))
        self.assertEqual(replayed(uniform(4, TEN), log), EMPTY)
        self.assertEqual(plain_of(uniform(4, TEN), log), (("contract", TEN[:4]), ("delete", TEN[4:])))

    def test_the_normal_log_does_the_same_and_no_other_one_does(self):
        matroids = small.matroids_on(THREE)
        normal = [making_words.log_with(*told) for told in making_words.normal_logs(THREE)]
        for log in making_words.logs(THREE, 2):
            wanted = [replayed(matroid, log) for matroid in matroids]
            same = [other for other in normal if [replayed(matroid, other) for matroid in matroids] == wanted]
            self.assertIn(normal_of(log, THREE), same)
            if wanted[0].ground:
                self.assertEqual(same, [normal_of(log, THREE)])

    def test_the_plain_log_keeps_the_dual_step_and_does_the_same(self):
        for name in ("F7", "F7*", "K33*"):
            matroid = named(name)
            for log in ((("contract", (0, 1, 2)),), (("contract", (0, 1, 2, 3, 4, 5)), TURN), (("delete", (0, 1, 2, 4, 5)),),
                        (("contract", (6,)), ("delete", (1, 2)), TURN, ("contract", (0, 3)))):
                plain = plain_of(matroid, log)
                self.assertEqual(replayed(matroid, plain), replayed(matroid, log))
                self.assertEqual(normal_of(plain, matroid.ground), plain)
                self.assertEqual(TURN in plain, TURN in normal_of(log, matroid.ground))
                for step in plain:
                    of = matroid if step[0] == "contract" else matroid.dual()
                    self.assertTrue(step == TURN or of.is_independent(step[1]))

    def test_late_plain_logs_of_large_matroids(self):
        log = (("contract", TEN[4:]),)
        self.assertEqual(plain_of(uniform(5, TEN), log), (("contract", (4, 5, 6, 7, 8)), ("delete", (9,))))
        log = (("contract", TEN[1:]),)
        self.assertEqual(plain_of(uniform(5, TEN), log), (("contract", (1, 2, 3, 4, 5)), ("delete", (6, 7, 8, 9))))

    def test_arguments_by_name(self):
        log = (("delete", (7,)), TURN)
        self.assertEqual(replayed(log=log, matroid=MIXED).bases, ((3,),))
        self.assertEqual(normal_of(ground=(3, 7), log=log), log)
        self.assertEqual(plain_of(log=log, matroid=MIXED), log)


class WrongLogsTest(unittest.TestCase):

    def places(self, log, matroid):
        """The places that the three functions tell of a wrong log, if they are the same."""
        found = set()
        for call in (lambda: replayed(matroid, log), lambda: normal_of(log, matroid.ground),
                     lambda: plain_of(matroid, log), lambda: replayed(log=log, matroid=matroid),
                     lambda: normal_of(ground=matroid.ground, log=log), lambda: plain_of(log=log, matroid=matroid)):
            with self.assertRaises(BadStep) as caught:
                call()
            found.add(caught.exception.place)
            self.assertIs(type(caught.exception.place), int)
        place, = found
        return place

    def test_what_is_no_matroid(self):
        for thing in small.NO_MATROIDS:
            for function in (replayed, plain_of):
                with self.subTest(function=function.__name__, kind=type(thing).__name__):
                    self.assertRaises(BadMatroid, function, thing, ())
                    self.assertRaises(BadMatroid, function, log=None, matroid=thing)

    def test_what_is_no_ground(self):
        for ground in NO_GROUNDS:
            with self.subTest(kind=type(ground).__name__):
                self.assertRaises(BadGround, normal_of, (), ground)
                self.assertRaises(BadGround, normal_of, ground=ground, log=None)

    def test_what_is_no_tuple(self):
        for thing in wrong.OTHERS + [[TURN], [("dual",)] * 30, "dual", {TURN: 1}]:
            with self.subTest(kind=type(thing).__name__):
                self.assertEqual(self.places(thing, MIXED), -1)

    def test_what_is_no_step(self):
        strange = wrong.OTHERS + [
            (), ("dual", ()), ("dual", (3,)), ("dual", None), ("dual",) * 2, ("Dual",), ("duals",), (b"dual",), ["dual"],
            ("delete",), ("contract",), ("delete", (3,), ()), ("delete", (3,), (4,)), ("Delete", (3,)), ("remove", (3,)),
            ("", (3,)), (None, (3,)), (["delete"], (3,)), (b"delete", (3,)), (("delete",), (3,)), ["delete", (3,)],
            ((3,), "delete"), ("contract ", (3,)), ("delete", "contract"), (wrong.Anything(), (3,)),
            (wrong.Nothing(), (3,)), (wrong.Anything(),), (1,), (True,)]
        strange += [(kind, thing) for kind in ("delete", "contract") for thing in wrong.no_sets_within(MIXED.ground)]
        for step in strange:
            with self.subTest(kind=type(step).__name__):
                self.assertEqual(self.places((step,), MIXED), 0)
                self.assertEqual(self.places((TURN, ("delete", ()), step, None), MIXED), 2)
                self.assertEqual(self.places((TURN,) * 19 + (step,), MIXED), 19)

    def test_elements_that_have_gone(self):
        for first in ("delete", "contract"):
            for second in ("delete", "contract"):
                self.assertEqual(self.places(((first, (3,)), (second, (3,))), MIXED), 1)
                self.assertEqual(self.places(((first, (3, 8)), TURN, (second, (4, 8))), MIXED), 2)
                self.assertEqual(self.places(((first, (3,)), TURN, (second, (4,)), (first, (3,))), MIXED), 3)
                self.assertEqual(self.places(((first, MIXED.ground), (second, ()), (second, (9,))), MIXED), 2)
                self.assertEqual(self.places(((first, (3,)),), EMPTY), 0)

    def test_the_first_wrong_step_counts(self):
        self.assertEqual(self.places((TURN, None, None), MIXED), 1)
        self.assertEqual(self.places((("delete", (4,)), ("delete", (4,)), None), MIXED), 1)

    def test_a_21st_step(self):
        for behind in (TURN, None, ("delete", (50,)), ("delete", ())):
            self.assertEqual(self.places((TURN,) * 20 + (behind,), MIXED), 20)
            self.assertEqual(self.places((TURN,) * 20 + (behind,) * 9, MIXED), 20)
            self.assertEqual(self.places((("contract", ()),) * 20 + (behind,), EMPTY), 20)
        self.assertEqual(self.places((TURN,) * 7 + (None,) + (TURN,) * 30, MIXED), 7)
        self.assertEqual(self.places((TURN,) * 19 + (None,) * 2, MIXED), 19)

    def test_the_order_of_the_errors(self):
        self.assertRaises(BadMatroid, replayed, None, None)
        self.assertRaises(BadMatroid, plain_of, None, None)
        self.assertRaises(BadGround, normal_of, None, None)
        self.assertRaises(BadGround, normal_of, (), tuple(range(11)))

    def test_what_is_handed_in_stays_as_it_was(self):
        for log in ([("delete", (3,))], (["delete", (3,)],), (("delete", [3]),)):
            before = copy.deepcopy(log)
            self.assertRaises(BadStep, replayed, MIXED, log)
            self.assertRaises(BadStep, normal_of, log, MIXED.ground)
            self.assertRaises(BadStep, plain_of, MIXED, log)
            self.assertEqual(log, before)
