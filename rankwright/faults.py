"""The fault of a table: the first kind that the document lists, and for it the least tuple.

The tables handed in have the form of their kind. Sets are gone through in
ascending order, so that the first fault that is met is the least one.
"""

from rankwright.masks import (
    flags_above, mask_of, masks_of, places_in, places_outside, set_of, sets_within,
)


def fault_in(kind, ground, table):
    """The fault of a table of a kind, or None."""
    if kind == "bases":
        return fault_in_bases(ground, table)
    if kind == "circuits":
        return fault_in_circuits(ground, table)
    if kind == "ranks":
        return fault_in_ranks(ground, table)
    return fault_in_flats(ground, table)


def fault_in_bases(ground, bases):
    """The fault of a table of bases, or None."""
    if not bases:
        return ("empty",)
    # If any two sizes are unlike, the size of the first set is unlike some other one.
    for base in bases:
        if len(base) != len(bases[0]):
            return ("sizes", bases[0], base)
    return _exchange_fault(ground, bases)


def _exchange_fault(ground, bases):
    many = len(ground)
    full = (1 << many) - 1
    masks = masks_of(bases, ground)
    known = {mask: True for mask in masks}
    # Asking this list whether some base is beside a barrier spares going through
    # all pairs of bases where there is no fault.
    has_base = flags_above(masks, many)
    for base, mask in zip(bases, masks):
        barriers = _barriers(mask, known, many)
        stuck = [(at, barrier) for at, barrier in barriers if has_base[full ^ barrier]]
        if stuck:
            other, at = _least_stuck(stuck, bases, masks)
            return ("exchange", base, other, ground[at])
    return None


def _barriers(mask, known, many):
    """For each place of a base that place with all that may take its stead.

    Just those bases that have nothing of it lack an exchange for that place.
    """
    outside = places_outside(mask, many)
    barriers = []
    for at in places_in(mask, many):
        rest = mask ^ (1 << at)
        stead = sum([1 << new for new in outside if rest | (1 << new) in known])
        barriers.append((at, stead | (1 << at)))
    return barriers


def _least_stuck(stuck, bases, masks):
    """The first base, and for it the first place, without an exchange."""
    return min([(base, at) for base, mask in zip(bases, masks) for at, barrier in stuck if mask & barrier == 0])


def fault_in_circuits(ground, circuits):
    """The fault of a table of circuits, or None."""
    if () in circuits:
        return ("empty",)
    masks = masks_of(circuits, ground)
    fault = _within_fault(circuits, masks)
    if fault is None:
        fault = _elimination_fault(ground, circuits, masks)
    return fault


def _within_fault(circuits, masks):
    for circuit, mask in zip(circuits, masks):
        for other, wider in zip(circuits, masks):
            if mask & wider == mask and mask != wider:
                return ("within", circuit, other)
    return None


def _elimination_fault(ground, circuits, masks):
    many = len(ground)
    dependent = flags_above(masks, many)
    for first in range(len(masks)):
        for second in range(first + 1, len(masks)):
            both = masks[first] | masks[second]
            for at in places_in(masks[first] & masks[second], many):
                if not dependent[both ^ (1 << at)]:
                    return ("elimination", circuits[first], circuits[second], ground[at])
    return None


def fault_in_ranks(ground, table):
    """The fault of a table of ranks, or None."""
    if table[()] != 0:
        return ("start",)
    ranks = [table[set_of(mask, ground)] for mask in range(1 << len(ground))]
    fault = _step_fault(ground, ranks)
    if fault is None:
        fault = _pair_fault(ground, ranks)
    return fault


def _step_fault(ground, ranks):
    for members in sets_within(ground):
        mask = mask_of(members, ground)
        for at in places_outside(mask, len(ground)):
            if ranks[mask | (1 << at)] - ranks[mask] not in (0, 1):
                return ("step", members, ground[at])
    return None


def _pair_fault(ground, ranks):
    for members in sets_within(ground):
        mask = mask_of(members, ground)
        idle = [at for at in places_outside(mask, len(ground)) if ranks[mask | (1 << at)] == ranks[mask]]
        for low in idle:
            for high in idle:
                if low < high and ranks[mask | (1 << low) | (1 << high)] != ranks[mask]:
                    return ("pair", members, ground[low], ground[high])
    return None


def fault_in_flats(ground, flats):
    """The fault of a table of flats, or None."""
    if ground not in flats:
        return ("ground",)
    masks = masks_of(flats, ground)
    fault = _meet_fault(flats, masks)
    if fault is None:
        fault = _cover_fault(ground, flats, masks)
    return fault


def _meet_fault(flats, masks):
    known = {mask: True for mask in masks}
    for first in range(len(masks)):
        for second in range(first + 1, len(masks)):
            if masks[first] & masks[second] not in known:
                return ("meet", flats[first], flats[second])
    return None


def _cover_fault(ground, flats, masks):
    many = len(ground)
    for flat, mask in zip(flats, masks):
        covers = _smallest_above(mask, masks)
        for at in places_outside(mask, many):
            if len([cover for cover in covers if (cover >> at) & 1]) != 1:
                return ("cover", flat, ground[at])
    return None


def _smallest_above(mask, masks):
    """The masks that have this one in them, are not equal to it, and have no other such one in them."""
    above = [wider for wider in masks if wider & mask == mask and wider != mask]
    smallest = []
    # A mask within another one is less than it, so it is met before.
    for wider in sorted(above):
        if not any([low & wider == low for low in smallest]):
            smallest.append(wider)
    return smallest
