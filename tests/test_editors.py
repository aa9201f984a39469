import copy
import random
import time
import unittest

from rankwright.classes import least_way
from rankwright.editors import Editor, PairEditor
from rankwright.errors import (
    BadChange, BadElement, BadFlats, BadMatroid, BadSet, NotFree, NothingDone, NotRelaxable, TooMany, Unlike,
)
from rankwright.extensions import extended, relaxed, tightened
from rankwright.logs import contracted, deleted
from rankwright.makers import named, summed, uniform
from rankwright.matroids import Matroid
from tests import edit_words, making_words, small, words, wrong
from tests.small import EMPTY, FIVE, FOUR, LOOPS, MIXED, TEN

EIGHT = TEN[:8]
NEW = (0, 3, 50, 151, 199)


def renamed(matroid, names):
    to = dict(zip(matroid.ground, names))
    bases = tuple(sorted(tuple(sorted(to[x] for x in base)) for base in matroid.bases))
    return Matroid(tuple(sorted(names)), bases)


def relaxable(matroid):
    return [x for x in words.sets_within(matroid.ground)
            if making_words.can_be_relaxed(matroid.ground, matroid.bases, x)]


def free(matroid):
    return [base for base in matroid.bases if making_words.is_free(matroid.ground, matroid.bases, base)]


def state(editor):
    matroid = editor.matroid
    return matroid.ground, matroid.bases, editor.verdicts, editor.stayed, editor.undoable


class HistoryTest(unittest.TestCase):

    def agreed(self, editor, model):
        self.assertEqual(editor.matroid, model.matroid)
        self.assertEqual(editor.verdicts, model.verdicts, model.matroid.bases)
        self.assertEqual(editor.stayed, model.stayed, model.matroid.bases)
        self.assertEqual(editor.undoable, len(model.past))

    def edits(self, matroid, most, others):
        """All edits, as names with arguments, the matroid that they lead to and what they contract."""
        for x in matroid.ground:
            yield "delete", (x,), deleted(matroid, (x,)), ()
            yield "contract", (x,), contracted(matroid, (x,)), (x,)
        for members in relaxable(matroid):
            yield "relax", (members,), relaxed(matroid, members), ()
        for base in free(matroid):
            yield "tighten", (base,), tightened(matroid, base), ()
        if len(matroid.ground) < most:
            flats = words.flats(matroid.ground, matroid.bases)
            for x in [x for x in NEW if x not in matroid.ground][:2]:
                for told in [(), flats[:1], flats[-1:], flats[1:3], flats]:
                    yield "grow", (x, told), extended(matroid, x, told), ()
        for other in others(matroid):
            yield "exchange", (other,), other, ()

    def same_ground(self, matroid):
        return [matroid.dual(), uniform(len(matroid.ground) // 2, matroid.ground)]

    def edited(self, editor, model, edit):
        name, arguments, made, gone = edit
        self.assertEqual(getattr(editor, name)(*arguments), model.edited(made, gone), (name, arguments))
        self.agreed(editor, model)

    def test_every_edit_of_small_matroids(self):
        for matroid in small.matroids_on_each(small.GROUNDS) + small.matroids_on(FOUR)[::4] + [uniform(2, FOUR)]:
            for edit in self.edits(matroid, 5, self.same_ground):
                editor, model = Editor(matroid), edit_words.Model(matroid)
                self.agreed(editor, model)
                self.edited(editor, model, edit)
                self.assertEqual(editor.undo(), model.undone())
                self.agreed(editor, model)
                self.assertRaises(NothingDone, editor.undo)

    def test_every_edit_of_matroids_with_five_elements(self):
        for matroid in (uniform(2, FIVE), uniform(3, FIVE), tightened(uniform(2, FIVE), (1, 10)), MIXED,
                        tightened(uniform(3, FIVE), (1, 10, 199)), extended(uniform(2, FIVE[:4]), 199, ()),
                        extended(uniform(2, FIVE[1:]), 1, ((),)), extended(uniform(2, FIVE[:4]), 199, ((10,),))):
            for edit in list(self.edits(matroid, 5, self.same_ground)):
                editor, model = Editor(matroid), edit_words.Model(matroid)
                self.edited(editor, model, edit)

    def test_duals_of_small_matroids(self):
        for matroid in small.matroids_on_each(small.GROUNDS) + small.matroids_on(FOUR) + small.matroids_on(FIVE)[::11]:
            editor, model = Editor(matroid), edit_words.Model(matroid)
            self.assertEqual(editor.turn(), model.edited(matroid.dual(), (), "dual"))
            self.agreed(editor, model)
            self.assertEqual(editor.undo(), model.undone())
            self.agreed(editor, model)

    def test_whole_histories(self):
        for seed in range(12):
            chance = random.Random(seed)
            matroid = chance.choice(small.matroids_on(FOUR) + [uniform(2, FIVE), uniform(3, FIVE), MIXED])
            editor, model = Editor(matroid), edit_words.Model(matroid)
            for _ in range(45):
                what = chance.random()
                if what < 0.15:
                    self.assertEqual(editor.turn(), model.edited(model.matroid.dual(), (), "dual"))
                elif what < 0.3 and model.past:
                    self.assertEqual(editor.undo(), model.undone())
                else:
                    edits = list(self.edits(model.matroid, 5, self.same_ground))
                    kind = chance.choice(sorted({edit[0] for edit in edits}))
                    self.edited(editor, model, chance.choice([edit for edit in edits if edit[0] == kind]))
                self.agreed(editor, model)
            while model.past:
                self.assertEqual(editor.undo(), model.undone())
                self.agreed(editor, model)
            self.assertRaises(NothingDone, editor.undo)

    def test_undo_back_to_the_beginning(self):
        editor = Editor(uniform(2, FIVE))
        states = [state(editor)]
        for step in (lambda: editor.delete(1), lambda: editor.turn(), lambda: editor.grow(7, ()),
                     lambda: editor.contract(10), lambda: editor.exchange(uniform(1, editor.matroid.ground))):
            step()
            states.append(state(editor))
        for before in states[-2::-1]:
            editor.undo()
            self.assertEqual((state(editor)[:3], editor.undoable), (before[:3], before[4]))
        self.assertRaises(NothingDone, editor.undo)

    def test_more_than_twenty_edits(self):
        editor, model = Editor(uniform(1, (0, 1))), edit_words.Model(uniform(1, (0, 1)))
        for number in range(25):
            other = Matroid((0, 1), ((number % 2,),))
            self.assertEqual(editor.exchange(other), model.edited(other))
            self.assertEqual(editor.undoable, min(20, number + 1))
        for number in range(20):
            self.assertEqual(editor.undo(), model.undone())
            self.agreed(editor, model)
        self.assertEqual((editor.undoable, editor.matroid), (0, Matroid((0, 1), ((0,),))))
        self.assertRaises(NothingDone, editor.undo)
        editor.turn()
        self.assertEqual(editor.undoable, 1)

    def test_greater_ones(self):
        f7 = named("F7")
        for matroid, edits in (
                (f7, [("relax", ((0, 1, 2),), ()), ("tighten", ((0, 1, 2),), ()), ("grow", (9, ((3,),)), ()),
                      ("delete", (3,), ()), ("contract", (9,), (9,)), ("grow", (7, ()), ())]),
                (summed(renamed(f7, TEN[1:8]), uniform(1, (0, 8))),
                 [("contract", (0,), (0,)), ("delete", (8,), ()), ("grow", (0, ((3, 5, 6),)), ()), ("delete", (1,), ())]),
                (uniform(4, TEN[:9]), [("grow", (9, ((0, 1, 2),)), ()), ("contract", (4,), (4,)), ("delete", (0,), ()),
                                       ("contract", (5,), (5,)), ("contract", (6,), (6,)), ("delete", (7,), ())])):
            editor, model = Editor(matroid), edit_words.Model(matroid)
            for name, arguments, gone in edits:
                found = getattr(editor, name)(*arguments)
                self.assertEqual(found, model.edited(self.made(model.matroid, name, arguments), gone))
                self.agreed(editor, model)
            self.assertEqual(editor.turn(), model.edited(model.matroid.dual(), (), "dual"))
            while model.past:
                self.assertEqual(editor.undo(), model.undone())
                self.agreed(editor, model)

    def made(self, matroid, name, arguments):
        if name in ("delete", "contract"):
            return {"delete": deleted, "contract": contracted}[name](matroid, arguments)
        return {"grow": extended, "relax": relaxed, "tighten": tightened}[name](matroid, *arguments)


class VerdictTest(unittest.TestCase):

    def test_a_contracted_element_leaves_the_way(self):
        editor = Editor(uniform(3, (0, 1, 2, 3, 4)))
        self.assertEqual(editor.verdicts["binary"], ("no", ("U24", (0, 1, 2, 3), (4,))))
        editor.contract(4)
        self.assertEqual(editor.verdicts["binary"], ("no", ("U24", (0, 1, 2, 3), ())))
        self.assertEqual(editor.stayed, ("binary", "cographic", "graphic", "planar", "regular"))

    def test_a_deleted_element_of_the_contracted_set_ends_the_way(self):
        editor = Editor(uniform(3, (0, 1, 2, 3, 4, 5)))
        editor.delete(4)
        self.assertEqual(editor.verdicts["binary"], ("no", ("U24", (0, 1, 2, 3), (5,))))
        self.assertEqual(editor.stayed, ())

    def test_a_way_is_kept_where_it_is_not_the_least_one(self):
        editor = Editor(uniform(2, (0, 1, 2, 3, 4)))
        editor.delete(0)
        self.assertEqual((editor.verdicts["binary"], editor.stayed), (("no", ("U24", (1, 2, 3, 4), ())), ()))
        editor.grow(0, ((1, 2, 3, 4),))
        self.assertEqual(editor.matroid, uniform(2, (0, 1, 2, 3, 4)))
        self.assertEqual(editor.verdicts["binary"], ("no", ("U24", (1, 2, 3, 4), ())))
        self.assertEqual(editor.verdicts["ternary"], ("no", ("U25", (0, 1, 2, 3, 4), ())))
        self.assertEqual(editor.stayed, ("binary", "cographic", "graphic", "planar", "regular"))
        editor.turn()
        self.assertEqual(editor.verdicts["binary"], ("no", ("U24", (0, 1, 2, 3), (4,))))
        self.assertEqual(editor.stayed, ())
        editor.undo()
        self.assertEqual(editor.verdicts["binary"], ("no", ("U24", (1, 2, 3, 4), ())))
        editor.undo()
        self.assertEqual(editor.stayed, ("binary", "cographic", "graphic", "planar", "regular"))

    def test_undo_brings_the_same_verdicts_back(self):
        editor = Editor(uniform(2, (0, 1, 2, 3, 4)))
        before = editor.verdicts
        editor.delete(0)
        editor.undo()
        self.assertEqual(editor.verdicts, before)
        self.assertEqual(editor.stayed, ())

    def test_the_dual_has_the_least_ways_though_the_kept_one_is_a_way(self):
        editor = Editor(uniform(2, (0, 1, 2, 3, 4)))
        editor.delete(0)
        editor.grow(0, ())
        self.assertEqual(editor.verdicts["binary"], ("no", ("U24", (1, 2, 3, 4), ())))
        editor.turn()
        self.assertEqual(editor.stayed, ("binary", "cographic", "graphic", "planar", "regular", "ternary"))

    def test_exchanging_for_itself(self):
        for matroid in (uniform(2, FOUR), named("F7"), EMPTY, LOOPS):
            editor = Editor(matroid)
            self.assertEqual(editor.exchange(other=matroid), ((), (), (), (), None))
            self.assertEqual(editor.stayed, tuple(edit_words.NAMES))
            self.assertEqual(editor.undoable, 1)

    def test_at_first(self):
        for matroid in small.matroids_on(FOUR)[::5] + [EMPTY, LOOPS, MIXED, named("F7"), named("K33")]:
            editor = Editor(matroid=matroid)
            self.assertEqual((editor.matroid, editor.stayed, editor.undoable), (matroid, (), 0))
            for name in edit_words.NAMES:
                way = least_way(matroid, name)
                self.assertEqual(editor.verdicts[name], ("yes",) if way is None else ("no", way))
            self.assertEqual(sorted(editor.verdicts), edit_words.NAMES)

    def test_changing_what_is_told_changes_nothing(self):
        editor = Editor(uniform(2, FOUR))
        told = editor.verdicts
        told["binary"] = ("yes",)
        told.clear()
        self.assertEqual(editor.verdicts["binary"], ("no", ("U24", FOUR, ())))
        editor.delete(0)
        editor.undo()
        self.assertEqual(editor.verdicts["binary"], ("no", ("U24", FOUR, ())))
        self.assertEqual(type(editor.stayed), tuple)

    def test_two_editors_of_one_matroid(self):
        matroid = uniform(2, FOUR)
        one, other = Editor(matroid), Editor(matroid)
        one.delete(0)
        self.assertEqual((other.matroid, other.undoable), (matroid, 0))
        self.assertEqual((matroid.ground, len(matroid.bases)), (FOUR, 6))

    def test_no_edit_takes_long(self):
        start = time.perf_counter()
        for name in ("K5", "K5*"):
            editor = Editor(named(name))
            editor.turn(), editor.turn(), editor.delete(0), editor.grow(0, ()), editor.contract(9), editor.undo()
            editor.exchange(uniform(5, TEN)), editor.tighten((0, 1, 2, 3, 4)), editor.relax((0, 1, 2, 3, 4))
        self.assertLess(time.perf_counter() - start, 10)


class EditorErrorsTest(unittest.TestCase):

    def refused(self, error, editor, name, *arguments, **more):
        before = state(editor)
        self.assertRaises(error, getattr(editor, name), *arguments, **more)
        self.assertEqual(state(editor), before)

    def test_what_is_no_matroid(self):
        editor = Editor(LOOPS)
        for thing in small.NO_MATROIDS:
            with self.subTest(kind=type(thing).__name__):
                self.assertRaises(BadMatroid, Editor, thing)
                self.assertRaises(BadMatroid, Editor, matroid=thing)
                self.refused(BadMatroid, editor, "exchange", thing)
                self.refused(BadMatroid, editor, "exchange", other=thing)

    def test_what_is_no_element(self):
        for matroid in (LOOPS, EMPTY, uniform(1, (0, 1))):
            editor = Editor(matroid)
            for thing in wrong.NO_ELEMENTS + [x for x in (0, 1, 2, 4, 5, 199) if x not in matroid.ground]:
                with self.subTest(kind=type(thing).__name__):
                    for name in ("delete", "contract"):
                        self.refused(BadElement, editor, name, thing)
                        self.refused(BadElement, editor, name, element=thing)
            for thing in wrong.NO_ELEMENTS + list(matroid.ground):
                with self.subTest(kind=type(thing).__name__):
                    self.refused(BadElement, editor, "grow", thing, None)
                    self.refused(BadElement, editor, "grow", flats=(), element=thing)

    def test_flats(self):
        editor = Editor(uniform(1, (0, 1)))
        for thing in wrong.no_tuples_of_sets((0, 1)) + [((0,),), ((1,), (0, 1)), ((), ()), [()]]:
            with self.subTest(kind=type(thing).__name__):
                self.refused(BadFlats, editor, "grow", 5, thing)
                self.refused(BadFlats, editor, "grow", flats=thing, element=5)
        editor = Editor(uniform(5, TEN))
        self.refused(TooMany, editor, "grow", 10, ())
        self.refused(BadFlats, editor, "grow", 10, [])
        self.refused(BadElement, editor, "grow", 9, [])

    def test_sets_and_bases(self):
        editor = Editor(Matroid((0, 1), ((1,),)))
        for thing in wrong.no_sets_within((0, 1)):
            with self.subTest(kind=type(thing).__name__):
                self.refused(BadSet, editor, "relax", thing)
                self.refused(BadSet, editor, "relax", members=thing)
                self.refused(BadSet, editor, "tighten", thing)
                self.refused(BadSet, editor, "tighten", base=thing)
        for members in ((), (1,), (0, 1)):
            self.refused(NotRelaxable, editor, "relax", members)
        self.refused(BadSet, editor, "tighten", (0,))
        self.refused(NotFree, Editor(uniform(0, FOUR)), "tighten", ())
        self.refused(NotFree, editor, "tighten", (1,))
        self.assertEqual(editor.relax(members=(0,))[0], ((0,),))
        self.assertEqual(editor.tighten(base=(0,))[1], ((0,),))

    def test_other_grounds_and_nothing_done(self):
        editor = Editor(uniform(1, (0, 1)))
        for other in (EMPTY, LOOPS, uniform(1, (0, 2)), uniform(1, (0, 1, 2))):
            self.refused(Unlike, editor, "exchange", other)
        self.refused(NothingDone, editor, "undo")
        editor.delete(element=0)
        self.refused(BadElement, editor, "delete", 0)
        editor.undo()
        self.refused(NothingDone, editor, "undo")

    def test_arguments_by_name(self):
        editor = Editor(uniform(2, FIVE))
        editor.delete(element=1), editor.contract(element=10), editor.grow(flats=(), element=7)
        self.assertEqual((editor.matroid.ground, editor.undoable), ((7, 100, 101, 199), 3))

    def test_what_is_handed_in_stays_as_it_was(self):
        editor = Editor(uniform(1, (0, 1)))
        for thing in ([()], [[0]], [0]):
            before = copy.deepcopy(thing)
            self.refused(BadFlats, editor, "grow", 5, thing)
            self.refused(BadSet, editor, "relax", thing)
            self.refused(BadSet, editor, "tighten", thing)
            self.assertEqual(thing, before)


class PairTest(unittest.TestCase):

    def agreed(self, editor, model):
        self.assertEqual(editor.pair, (model.one, model.other))
        self.assertIs(type(editor.pair), tuple)
        self.assertEqual(editor.mapping, model.mapping)

    def starts(self):
        pairs = [(one, other) for ground, names in (((), ()), ((7,), (3,)), ((0, 199), (3, 4)), ((2, 3, 5), (0, 1, 9)))
                 for one in small.matroids_on(ground) for other in small.matroids_on(names)]
        found, others = small.matroids_on(FOUR), small.matroids_on((1, 2, 3, 198))
        return pairs[::2] + list(zip(found[::6], others[::6])) + list(zip(found[::9], others[3::9]))

    def edits(self, one, other):
        for x in one.ground:
            for y in other.ground:
                yield "delete", (x, y), deleted(one, (x,)), deleted(other, (y,)), (x, y), None
                yield "contract", (x, y), contracted(one, (x,)), contracted(other, (y,)), (x, y), None
        for members in relaxable(one):
            for behind in relaxable(other):
                yield "relax", (members, behind), relaxed(one, members), relaxed(other, behind), None, None
        yield "turn", (), one.dual(), other.dual(), None, None
        if len(one.ground) < 4:
            for flats in ((), one.flats[:1], one.flats[1:2], one.flats[-1:]):
                for behind in ((), other.flats[:1], other.flats[-1:]):
                    for x, y in ((4, 100), (100, 5)):
                        if x in one.ground or y in other.ground:
                            continue
                        made = extended(one, x, flats), extended(other, y, behind)
                        yield "grow", ((x, flats), (y, behind)), *made, None, (x, y)

    def test_every_edit_of_small_pairs(self):
        for one, other in self.starts():
            for name, arguments, made, behind, gone, come in self.edits(one, other):
                editor, model = PairEditor(one, other), edit_words.PairModel(one, other)
                self.agreed(editor, model)
                found = getattr(editor, name)(*arguments)
                self.assertEqual(found, model.edited(made, behind, gone, come), (one.bases, other.bases, name, arguments))
                self.agreed(editor, model)

    def test_whole_histories(self):
        for seed in range(15):
            chance = random.Random(seed)
            one, other = chance.choice(self.starts())
            editor, model = PairEditor(one, other), edit_words.PairModel(one, other)
            for _ in range(25):
                edits = list(self.edits(model.one, model.other))
                kind = chance.choice(sorted({edit[0] for edit in edits}))
                name, arguments, made, behind, gone, come = chance.choice([edit for edit in edits if edit[0] == kind])
                found = getattr(editor, name)(*arguments)
                self.assertEqual(found, model.edited(made, behind, gone, come))
                self.agreed(editor, model)

    def test_a_mapping_is_kept_where_it_is_not_the_least_one(self):
        editor = PairEditor(uniform(1, (0, 1)), Matroid((4, 5), ((5,),)))
        self.assertIsNone(editor.mapping)
        self.assertEqual(editor.delete(0, 4), "new")
        editor = PairEditor(Matroid((0, 1), ((0,),)), Matroid((4, 5), ((5,),)))
        self.assertEqual(editor.mapping, (5, 4))
        self.assertEqual(editor.relax((1,), (4,)), "kept")
        self.assertEqual((editor.mapping, editor.pair), ((5, 4), (uniform(1, (0, 1)), uniform(1, (4, 5)))))
        self.assertEqual(editor.turn(), "kept")
        self.assertEqual(editor.grow((9, ()), (6, ())), "kept")
        self.assertEqual(editor.mapping, (5, 4, 6))
        self.assertEqual(editor.grow((3, ()), (7, ((),))), "apart")
        self.assertEqual(editor.turn(), "apart")
        self.assertIsNone(editor.mapping)

    def test_other_ranks_are_let_in(self):
        editor = PairEditor(one=uniform(1, (0, 1)), other=uniform(2, (0, 1)))
        self.assertIsNone(editor.mapping)
        self.assertEqual(editor.contract(0, 0), "apart")
        self.assertEqual(editor.turn(), "apart")
        self.assertEqual(editor.delete(1, 1), "new")
        self.assertEqual(editor.mapping, ())

    def test_eight_elements(self):
        start = time.perf_counter()
        one = renamed(summed(named("F7"), uniform(1, (7,))), (9, 30, 2, 4, 100, 12, 7, 0))
        editor = PairEditor(one, summed(named("F7"), uniform(1, (7,))))
        self.assertIsNotNone(editor.mapping)
        images = dict(zip(one.ground, editor.mapping))
        self.assertEqual(images[0], 7)
        self.assertEqual(editor.turn(), "kept")
        self.assertEqual(editor.delete(one=30, other=images[30]), "kept")
        self.assertEqual(editor.contract(one=2, other=images[4]), "new")
        self.assertEqual(editor.grow(one=(77, ()), other=(99, ())), "kept")
        for size in range(9):
            PairEditor(uniform(size, EIGHT), uniform(8 - size, EIGHT)).turn()
        self.assertLess(time.perf_counter() - start, 5)


class PairErrorsTest(unittest.TestCase):

    def refused(self, error, editor, name, *arguments, **more):
        before = editor.pair, editor.mapping
        with self.assertRaises(error) as caught:
            getattr(editor, name)(*arguments, **more)
        self.assertEqual((editor.pair, editor.mapping), before)
        return caught.exception

    def test_what_is_no_matroid(self):
        for thing in small.NO_MATROIDS:
            with self.subTest(kind=type(thing).__name__):
                self.assertRaises(BadMatroid, PairEditor, thing, EMPTY)
                self.assertRaises(BadMatroid, PairEditor, uniform(5, TEN), thing)
                self.assertRaises(BadMatroid, PairEditor, other=thing, one=thing)

    def test_numbers_of_elements(self):
        for one, other in ((EMPTY, LOOPS), (uniform(1, TEN), uniform(1, TEN[:9])), (MIXED, LOOPS)):
            self.assertRaises(Unlike, PairEditor, one, other)
        for many in (9, 10):
            for size in (0, 4):
                with self.assertRaises(TooMany) as caught:
                    PairEditor(uniform(size, TEN[:many]), uniform(size, TEN[:many]))
                self.assertEqual(caught.exception.most, 8)

    def test_what_is_no_element(self):
        editor = PairEditor(uniform(1, (0, 1)), uniform(1, (4, 5)))
        for thing in wrong.NO_ELEMENTS + [2, 3, 6, 199]:
            with self.subTest(kind=type(thing).__name__):
                for name in ("delete", "contract"):
                    self.refused(BadElement, editor, name, thing, 4)
                    self.refused(BadElement, editor, name, 0, thing)
                    self.refused(BadElement, editor, name, other=thing, one=thing)
        for name in ("delete", "contract"):
            self.refused(BadElement, editor, name, 4, 0)
            self.refused(BadElement, editor, name, 0, 0)
            self.refused(BadElement, PairEditor(EMPTY, EMPTY), name, 0, 0)

    def test_what_is_no_change(self):
        editor = PairEditor(uniform(1, (0, 1)), uniform(1, (4, 5)))
        for thing in wrong.OTHERS + [(7,), (7, (), ()), [7, ()], 7, {7: ()}]:
            with self.subTest(kind=type(thing).__name__):
                self.refused(BadChange, editor, "grow", thing, (7, ()))
                self.refused(BadChange, editor, "grow", (7, ()), thing)
                self.refused(BadChange, editor, "grow", (None, None), thing)
                self.refused(BadChange, editor, "grow", other=thing, one=thing)

    def test_wrong_elements_and_flats(self):
        editor = PairEditor(uniform(1, (0, 1)), uniform(1, (4, 5)))
        for thing in wrong.NO_ELEMENTS:
            with self.subTest(kind=type(thing).__name__):
                self.refused(BadElement, editor, "grow", (thing, None), (7, ()))
                self.refused(BadElement, editor, "grow", (7, ()), (thing, None))
        self.refused(BadElement, editor, "grow", (0, ()), (7, ()))
        self.refused(BadElement, editor, "grow", (7, ()), (4, ()))
        self.assertEqual(editor.grow((4, ()), (0, ())), "kept")
        editor = PairEditor(uniform(1, (0, 1)), uniform(1, (4, 5)))
        for thing in wrong.OTHERS + [((0,),), ((), ()), [()], ((True,),), ((4,),)]:
            if repr(thing) != "()":
                with self.subTest(kind=type(thing).__name__):
                    self.refused(BadFlats, editor, "grow", (7, thing), (None, None))
                    self.refused(BadFlats, editor, "grow", (7, ()), (7, thing))
        # All errors of the first one come before those of the second one.
        self.refused(BadFlats, editor, "grow", (7, ((0,),)), (4, ()))
        self.refused(BadElement, editor, "grow", (0, ()), (7, ((4,),)))

    def test_pairs_of_eight(self):
        editor = PairEditor(uniform(3, EIGHT), uniform(4, EIGHT))
        self.assertEqual(self.refused(TooMany, editor, "grow", (8, ()), (9, ())).most, 8)
        alike = PairEditor(uniform(3, EIGHT), uniform(3, TEN[2:]))
        self.assertEqual(self.refused(TooMany, alike, "grow", (8, ()), (0, ())).most, 8)
        self.assertEqual(self.refused(TooMany, alike, "grow", (8, ((),)), (0, ())).most, 8)
        self.refused(BadElement, editor, "grow", (8, ()), (7, ()))
        self.refused(BadFlats, editor, "grow", (8, ()), (8, ((0, 1, 2, 3),)))
        self.refused(BadChange, editor, "grow", (8, ()), [8, ()])
        self.assertEqual(PairEditor(uniform(3, TEN[:7]), uniform(3, EIGHT[1:])).grow((9, ()), (0, ())), "kept")

    def test_sets(self):
        editor = PairEditor(Matroid((0, 1), ((1,),)), Matroid((4, 5), ((5,),)))
        for thing in wrong.OTHERS + [(6,), [0], (True,), (0, 0)]:
            if repr(thing) != "()":
                with self.subTest(kind=type(thing).__name__):
                    self.refused(BadSet, editor, "relax", thing, None)
                    self.refused(BadSet, editor, "relax", (0,), thing)
        self.refused(NotRelaxable, editor, "relax", (1,), None)
        self.refused(NotRelaxable, editor, "relax", (0,), (5,))
        self.refused(NotRelaxable, editor, "relax", (), ())
        self.refused(BadSet, editor, "relax", (0,), (0,))
        self.refused(BadSet, editor, "relax", (4,), (4,))
        self.assertEqual(editor.relax(other=(4,), one=(0,)), "kept")

    def test_what_is_handed_in_stays_as_it_was(self):
        editor = PairEditor(uniform(1, (0, 1)), uniform(1, (4, 5)))
        thing = [7, []]
        self.refused(BadChange, editor, "grow", thing, thing)
        self.refused(BadFlats, editor, "grow", tuple(thing), tuple(thing))
        self.refused(BadSet, editor, "relax", thing, thing)
        self.assertEqual(thing, [7, []])
        one, other = uniform(2, (0, 1, 2)), uniform(2, (4, 5, 6))
        PairEditor(one, other).delete(0, 4)
        self.assertEqual((one.ground, other.ground), ((0, 1, 2), (4, 5, 6)))
