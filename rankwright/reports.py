"""Reports of edits: how two matroids differ."""

from rankwright.masks import mask_of, places_in, sets_of
from rankwright.orders import images_of, ranks_at
from rankwright.sets import common_of


def report_between(old, new):
    """The report of an edit that leads from one matroid to another one."""
    return (_gone(new.bases, old.bases), _gone(old.bases, new.bases),
            _gone(new.circuits, old.circuits), _gone(old.circuits, new.circuits), _least_changed(old, new))


def _gone(sets, others):
    """The sets that are none of the others."""
    known = {members: True for members in others}
    return tuple([members for members in sets if members not in known])


def _least_changed(old, new):
    """The least set within the elements of both whose rank is another one, or None."""
    common = common_of(old.ground, new.ground)
    ranks, others = _ranks_within(common, old), _ranks_within(common, new)
    changed = [mask for mask in range(len(ranks)) if ranks[mask] != others[mask]]
    return sets_of(changed, common)[0] if changed else None


def _ranks_within(members, matroid):
    """For each mask over a set its rank."""
    places = places_in(mask_of(members, matroid.ground), len(matroid.ground))
    return ranks_at(images_of(places), matroid.mask_ranks, 0)
