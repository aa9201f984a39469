"""Extending along flats, relaxing and tightening."""

from rankwright.checks import are_sets_within, check_base, check_set, is_element, is_element_of
from rankwright.cuts import all_cuts, cut_with
from rankwright.errors import BadElement, BadFlats, NotFree, NotRelaxable, TooMany
from rankwright.limits import MAX_CUTS, MAX_GROUND
from rankwright.logs import deleted
from rankwright.masks import masks_of, sets_of
from rankwright.matroids import check_matroid, sure_matroid
from rankwright.sets import rest_of, sets_one_less, together


def cut_of_flats(matroid, flats):
    """The cut of some flats."""
    check_matroid(matroid)
    _check_flats(flats, matroid)
    return _cut_along(matroid, flats)


def _cut_along(matroid, flats):
    masks = cut_with((), masks_of(flats, matroid.ground), _flat_masks(matroid), matroid.mask_ranks)
    return sets_of(masks, matroid.ground)


def extended(matroid, element, flats):
    """The matroid extended by a new element along flats."""
    check_matroid(matroid)
    if not is_element(element) or element in matroid.ground:
        raise BadElement("not a new element")
    _check_flats(flats, matroid)
    if len(matroid.ground) >= MAX_GROUND:
        raise TooMany(MAX_GROUND)
    bases = _extended_bases(matroid, element, _cut_along(matroid, flats))
    return sure_matroid(together(matroid.ground, (element,)), bases)


def _extended_bases(matroid, element, cut):
    if not cut:
        return [together(base, (element,)) for base in matroid.bases]
    # The ground is in the cut, so that the rank stays: a base with the element
    # is an independent set of one less, whose rank the element raises, with it.
    within = {flat: True for flat in cut}
    raised = [less for less in sets_one_less(matroid.bases) if matroid.closure_of(less) not in within]
    longer = [together(less, (element,)) for less in raised]
    return [*matroid.bases, *longer]


def cut_of(matroid, element):
    """The cut by which an element extends what deleting it leaves."""
    check_matroid(matroid)
    if not is_element_of(element, matroid.ground):
        raise BadElement("not an element of the ground")
    flats = deleted(matroid, (element,)).flats
    return tuple([flat for flat in flats if element in matroid.closure_of(flat)])


def cuts_of(matroid):
    """All cuts of a matroid."""
    check_matroid(matroid)
    if len(matroid.ground) > MAX_CUTS:
        raise TooMany(MAX_CUTS)
    cuts = all_cuts(_flat_masks(matroid), matroid.mask_ranks)
    return tuple(sorted([sets_of(cut, matroid.ground) for cut in cuts]))


def _check_flats(flats, matroid):
    if not are_sets_within(flats, matroid.ground) or not all([matroid.closure_of(one) == one for one in flats]):
        raise BadFlats("not an ascending tuple of different flats")


def _flat_masks(matroid):
    return masks_of(matroid.flats, matroid.ground)


def relaxed(matroid, members):
    """The matroid with a circuit that is a hyperplane as a base more."""
    check_matroid(matroid)
    check_set(members, matroid.ground)
    if members not in matroid.circuits or members not in matroid.hyperplanes:
        raise NotRelaxable("not both a circuit and a hyperplane")
    return sure_matroid(matroid.ground, [*matroid.bases, members])


def tightened(matroid, base):
    """The matroid without a free base."""
    check_matroid(matroid)
    check_base(base, matroid.bases)
    if not _is_free(matroid, base):
        raise NotFree("an element of the base cannot be exchanged for each one outside")
    return sure_matroid(matroid.ground, [other for other in matroid.bases if other != base])


def _is_free(matroid, base):
    outside = rest_of(matroid.ground, base)
    exchanged = [together(less, (one,)) for less in sets_one_less((base,)) for one in outside]
    # Just for () and for the ground there is nothing to exchange.
    return bool(exchanged) and all([other in matroid.bases for other in exchanged])
