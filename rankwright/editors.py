"""Editors of one matroid, and of a pair of them."""

from rankwright.checks import is_element_of
from rankwright.errors import BadChange, BadElement, NothingDone, TooMany, Unlike
from rankwright.extensions import extended, relaxed, tightened
from rankwright.likeness import is_mapping, mapping_between
from rankwright.limits import MAX_PAIR
from rankwright.logs import contracted, deleted
from rankwright.matroids import check_matroid
from rankwright.reports import report_between
from rankwright.verdicts import equal_verdicts, least_verdicts, verdicts_behind

_MAX_UNDONE = 20


class Editor:
    """A matroid that is edited, with the verdicts of the six classes."""

    def __init__(self, matroid):
        check_matroid(matroid)
        self._matroid = matroid
        self._verdicts = least_verdicts(matroid)
        self._stayed = ()
        # Of each edit that can be taken back the matroid and the verdicts before it.
        self._past = []

    @property
    def matroid(self):
        """The matroid as it is now."""
        return self._matroid

    @property
    def verdicts(self):
        """The verdicts, by the names of the classes."""
        return {name: self._verdicts[name] for name in self._verdicts}

    @property
    def stayed(self):
        """The names of the classes whose verdicts have stayed in the last edit."""
        return self._stayed

    @property
    def undoable(self):
        """How many edits can be taken back."""
        return len(self._past)

    def delete(self, element):
        """Delete an element."""
        _check_element(element, self._matroid)
        return self._edit(deleted(self._matroid, (element,)), ())

    def contract(self, element):
        """Contract an element."""
        _check_element(element, self._matroid)
        return self._edit(contracted(self._matroid, (element,)), (element,))

    def grow(self, element, flats):
        """Extend by a new element along flats."""
        return self._edit(extended(self._matroid, element, flats), ())

    def relax(self, members):
        """Relax a set."""
        return self._edit(relaxed(self._matroid, members), ())

    def tighten(self, base):
        """Tighten a base."""
        return self._edit(tightened(self._matroid, base), ())

    def exchange(self, other):
        """Take another matroid with the same ground."""
        check_matroid(other)
        if other.ground != self._matroid.ground:
            raise Unlike("another ground")
        return self._edit(other, ())

    def turn(self):
        """Take the dual."""
        made = self._matroid.dual()
        verdicts = least_verdicts(made)
        return self._keep(made, verdicts, equal_verdicts(self._verdicts, verdicts))

    def undo(self):
        """Take the last edit back."""
        if not self._past:
            raise NothingDone("no edit is left to take back")
        matroid, verdicts = self._past.pop()
        return self._move(matroid, verdicts, equal_verdicts(self._verdicts, verdicts))

    def _edit(self, made, gone):
        """Take what an edit has made, which has contracted what is gone."""
        verdicts, stayed = verdicts_behind(self._verdicts, made, gone)
        return self._keep(made, verdicts, stayed)

    def _keep(self, made, verdicts, stayed):
        """Move on, so that it can be taken back."""
        self._past.append((self._matroid, self._verdicts))
        if len(self._past) > _MAX_UNDONE:
            self._past.pop(0)
        return self._move(made, verdicts, stayed)

    def _move(self, made, verdicts, stayed):
        report = report_between(self._matroid, made)
        self._matroid = made
        self._verdicts = verdicts
        self._stayed = stayed
        return report


class PairEditor:
    """Two matroids that are edited at once, with a mapping if they are alike."""

    def __init__(self, one, other):
        # What is no pair is refused there.
        self._mapping = mapping_between(one, other)
        self._one = one
        self._other = other

    @property
    def pair(self):
        """The two matroids as they are now."""
        return (self._one, self._other)

    @property
    def mapping(self):
        """The mapping from the one to the other one, or None."""
        return self._mapping

    def delete(self, one, other):
        """Delete an element of each."""
        self._check_elements(one, other)
        return self._edit(deleted(self._one, (one,)), deleted(self._other, (other,)), self._images())

    def contract(self, one, other):
        """Contract an element of each."""
        self._check_elements(one, other)
        return self._edit(contracted(self._one, (one,)), contracted(self._other, (other,)), self._images())

    def grow(self, one, other):
        """Extend each by a new element along flats."""
        if not _is_change(one) or not _is_change(other):
            raise BadChange("not a pair of an element and flats each")
        made = extended(self._one, one[0], one[1])
        behind = extended(self._other, other[0], other[1])
        if len(self._one.ground) >= MAX_PAIR:
            raise TooMany(MAX_PAIR)
        images = self._images()
        images[one[0]] = other[0]
        return self._edit(made, behind, images)

    def relax(self, one, other):
        """Relax a set of each."""
        made = relaxed(self._one, one)
        return self._edit(made, relaxed(self._other, other), self._images())

    def turn(self):
        """Take both duals."""
        return self._edit(self._one.dual(), self._other.dual(), self._images())

    def _check_elements(self, one, other):
        _check_element(one, self._one)
        _check_element(other, self._other)

    def _images(self):
        """The images of the elements by the mapping; none if there is no mapping."""
        if self._mapping is None:
            return {}
        return {element: image for element, image in zip(self._one.ground, self._mapping)}

    def _edit(self, made, behind, images):
        """Take what an edit has made of the two, with the images of what is left as a mapping if they are one."""
        # They are none if one of them has gone, or if there was no mapping.
        thing = tuple([images[element] for element in made.ground if element in images])
        kept = self._mapping is not None and is_mapping(made, behind, thing)
        self._mapping = thing if kept else mapping_between(made, behind)
        self._one = made
        self._other = behind
        if kept:
            return "kept"
        return "apart" if self._mapping is None else "new"


def _check_element(element, matroid):
    if not is_element_of(element, matroid.ground):
        raise BadElement("not an element of the ground")


def _is_change(thing):
    return isinstance(thing, tuple) and len(thing) == 2
