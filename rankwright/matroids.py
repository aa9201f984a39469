"""Matroids, and the tables that tell them."""

from rankwright.checks import check_base, check_ground, check_set, check_sets, is_element_of
from rankwright.errors import BadElement, BadMatroid, BadName, BadSets, BadTable, TooMany
from rankwright.faults import fault_in
from rankwright.limits import MAX_RANKS
from rankwright.masks import (
    circuit_masks, closure_mask, flat_masks, mask_of, masks_of, ranks_by_bases, set_of, sets_of, sets_within,
)
from rankwright.sets import rest_of, together
from rankwright.tables import bases_in, is_kind, is_table

_MAX_TOLD = 8


class Matroid:
    """A matroid, told by its ground and its bases."""

    def __init__(self, ground, bases):
        check_ground(ground)
        check_sets(bases, ground)
        fault = fault_in("bases", ground, bases)
        if fault is not None:
            raise BadTable(fault)
        self.ground = ground
        self.bases = bases
        self._ranks = None
        self._circuits = None
        self._flats = None

    def __eq__(self, other):
        return isinstance(other, Matroid) and self.ground == other.ground and self.bases == other.bases

    @property
    def rank(self):
        """The size of the bases."""
        return len(self.bases[0])

    @property
    def mask_ranks(self):
        """For each mask over the ground the rank of its set."""
        if self._ranks is None:
            self._ranks = tuple(ranks_by_bases(masks_of(self.bases, self.ground), len(self.ground)))
        return self._ranks

    @property
    def circuits(self):
        """The dependent sets without a smaller dependent set in them."""
        if self._circuits is None:
            self._circuits = sets_of(circuit_masks(self.mask_ranks, len(self.ground)), self.ground)
        return self._circuits

    @property
    def flats(self):
        """The sets that are their own closures."""
        if self._flats is None:
            self._flats = sets_of(flat_masks(self.mask_ranks, len(self.ground)), self.ground)
        return self._flats

    @property
    def hyperplanes(self):
        """The flats of rank one less than the matroid's."""
        return tuple([flat for flat in self.flats if self.rank_of(flat) == self.rank - 1])

    @property
    def loops(self):
        """The elements in no base."""
        return tuple([one for one in self.ground if not any([one in base for base in self.bases])])

    @property
    def coloops(self):
        """The elements in all bases."""
        return tuple([one for one in self.ground if all([one in base for base in self.bases])])

    def rank_of(self, members):
        """The rank of a set."""
        check_set(members, self.ground)
        return self.mask_ranks[mask_of(members, self.ground)]

    def closure_of(self, members):
        """A set with all elements that do not raise its rank."""
        check_set(members, self.ground)
        mask = closure_mask(mask_of(members, self.ground), self.mask_ranks, len(self.ground))
        return set_of(mask, self.ground)

    def is_independent(self, members):
        """Whether the rank of a set is its size."""
        return self.rank_of(members) == len(members)

    def circuit_in(self, members):
        """The least circuit in a set, or None."""
        check_set(members, self.ground)
        for circuit in self.circuits:
            if all([one in members for one in circuit]):
                return circuit
        return None

    def fundamental(self, base, element):
        """The only circuit in a base and an element outside together."""
        check_base(base, self.bases)
        if not is_element_of(element, self.ground) or element in base:
            raise BadElement("not an element of the ground outside the base")
        return self.circuit_in(together(base, (element,)))

    def dual(self):
        """The matroid whose bases are the complements of the bases."""
        return sure_matroid(self.ground, [rest_of(self.ground, base) for base in self.bases])


def sure_matroid(ground, bases):
    """The Matroid with these bases, in any order, where a matroid is sure to have them."""
    # Looking for a fault takes far longer than most ways to make the bases, and
    # just Matroid((), ((),)) has next to nothing to look at.
    made = Matroid((), ((),))
    made.ground = ground
    made.bases = tuple(sorted(bases))
    return made


def fault_of(kind, ground, table):
    """The fault of a table of a kind, or None."""
    _check_kind(kind)
    check_ground(ground)
    if kind == "ranks" and len(ground) > MAX_RANKS:
        raise TooMany(MAX_RANKS)
    if kind in ("circuits", "flats") and len(ground) > _MAX_TOLD:
        raise TooMany(_MAX_TOLD)
    if not is_table(kind, ground, table):
        raise BadSets(f"not a table of {kind} for the ground")
    return fault_in(kind, ground, table)


def told_by(kind, ground, table):
    """The Matroid that a table of a kind tells."""
    fault = fault_of(kind, ground, table)
    if fault is not None:
        raise BadTable(fault)
    return sure_matroid(ground, bases_in(kind, ground, table))


def table_of(matroid, kind):
    """The table of a kind that tells a matroid."""
    check_matroid(matroid)
    _check_kind(kind)
    if kind == "bases":
        return matroid.bases
    if kind == "circuits":
        return matroid.circuits
    if kind == "flats":
        return matroid.flats
    if len(matroid.ground) > MAX_RANKS:
        raise TooMany(MAX_RANKS)
    return {members: matroid.rank_of(members) for members in sets_within(matroid.ground)}


def _check_kind(kind):
    if not is_kind(kind):
        raise BadName("not a kind of tables")


def check_matroid(matroid):
    """Raise BadMatroid for what is no Matroid."""
    if not isinstance(matroid, Matroid):
        raise BadMatroid("not a Matroid")
