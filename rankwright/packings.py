"""Packings and their bounds, chains of densities and even families."""

from rankwright.checks import is_integer, is_set_within
from rankwright.densities import chain_masks, even_sets, is_falling, share_of
from rankwright.errors import BadNumber, BadSets, Loop, TooMany
from rankwright.limits import MAX_PACKING
from rankwright.masks import common_mask, mask_of, places_in, set_of, sizes_of_masks
from rankwright.matroids import check_matroid
from rankwright.sets import common_of, rest_of, together

_MAX_EVEN = 8


def greatest_packing(matroid, many):
    """A packing of so many sets with the most elements that there can be."""
    check_matroid(matroid)
    _check_number(many)
    flags = [_flags_packed(matroid, number) for number in range(many + 1)]
    left = _greatest_flagged(flags[many], len(matroid.ground))
    packing = []
    for more in reversed(range(many)):
        # What is left without the next set can be packed into the sets behind it.
        taken = _first_taken(left, flags[1], flags[more])
        packing.append(set_of(taken, matroid.ground))
        left = left ^ taken
    return tuple(packing)


def _flags_packed(matroid, number):
    """For each mask whether it can be packed into so many sets: just if no mask in it is too great for its rank."""
    flags = []
    for mask, (rank, size) in enumerate(zip(matroid.mask_ranks, sizes_of_masks(len(matroid.ground)))):
        below = [flags[mask ^ (1 << at)] for at in places_in(mask, len(matroid.ground))]
        flags.append(size <= number * rank and all(below))
    return flags


def _greatest_flagged(flags, many):
    """A greatest mask with a flag: these are the independent masks of a matroid, so that no choice is wrong."""
    greatest = 0
    for at in range(many):
        if flags[greatest | (1 << at)]:
            greatest = greatest | (1 << at)
    return greatest


def _first_taken(mask, flags, rest_flags):
    """The first mask within a mask that has a flag and leaves one that has a flag, too."""
    for taken in range(mask + 1):
        if taken & mask == taken and flags[taken] and rest_flags[mask ^ taken]:
            return taken
    return None


def least_bound(matroid, many):
    """The bound of the greatest packings that is in all others."""
    check_matroid(matroid)
    _check_number(many)
    sizes = sizes_of_masks(len(matroid.ground))
    # A bound has the least of these numbers: what is outside a set is as many as all less its size.
    worths = [many * rank - size for size, rank in zip(sizes, matroid.mask_ranks)]
    least = min(worths)
    bounds = [mask for mask, worth in enumerate(worths) if worth == least]
    return set_of(common_mask(bounds), matroid.ground)


def is_packing(matroid, many, thing):
    """Whether thing is a packing of so many sets."""
    check_matroid(matroid)
    _check_number(many)
    if not _are_sets(thing, matroid.ground) or len(thing) != many:
        return False
    apart = [not common_of(thing[low], thing[high]) for high in range(many) for low in range(high)]
    return all(apart) and all([matroid.is_independent(members) for members in thing])


def is_bound(matroid, many, packing, thing):
    """Whether thing is a bound of a packing."""
    if not is_packing(matroid, many, packing):
        raise BadSets(f"not a packing of {many} sets")
    if not is_set_within(thing, matroid.ground):
        return False
    outside = rest_of(matroid.ground, thing)
    return sum([len(members) for members in packing]) == len(outside) + many * matroid.rank_of(thing)


def chain_of(matroid):
    """The chain of a matroid without loops."""
    _check_without_loops(matroid)
    return tuple([set_of(mask, matroid.ground) for mask in chain_masks(matroid.mask_ranks)])


def even_families(matroid):
    """Even families for the chain of a matroid without loops."""
    _check_without_loops(matroid)
    if len(matroid.ground) > _MAX_EVEN:
        raise TooMany(_MAX_EVEN)
    masks = chain_masks(matroid.mask_ranks)
    families = []
    for inner, outer in zip(masks, masks[1:]):
        sets = [set_of(mask, matroid.ground) for mask in even_sets(inner, outer, matroid.mask_ranks)]
        families.append(tuple(sorted(sets)))
    return tuple(families)


def are_families(matroid, sets, thing):
    """Whether sets are a tuple with falling quotients, and thing is a tuple of even families for it."""
    _check_without_loops(matroid)
    if not _are_sets(sets, matroid.ground):
        raise BadSets("not a tuple of sets within the ground")
    if not sets or sets[0] != () or sets[-1] != matroid.ground:
        return False
    masks = [mask_of(members, matroid.ground) for members in sets]
    if not is_falling(masks, matroid.mask_ranks) or not isinstance(thing, tuple) or len(thing) != len(sets) - 1:
        return False
    return all([_is_even(family, sets[at], sets[at + 1], matroid) for at, family in enumerate(thing)])


def _is_even(thing, inner, outer, matroid):
    """Whether thing is an even family for two sets that stand side by side in a tuple."""
    fresh = rest_of(outer, inner)
    rank = matroid.rank_of(outer) - matroid.rank_of(inner)
    many, times = share_of(len(fresh), rank)
    if not _are_sets(thing, fresh) or len(thing) != many:
        return False
    if not all([thing[at] <= thing[at + 1] for at in range(many - 1)]):
        return False
    if not all([len(members) == rank for members in thing]):
        return False
    if not all([matroid.rank_of(together(inner, members)) == matroid.rank_of(outer) for members in thing]):
        return False
    return all([len([members for members in thing if one in members]) == times for one in fresh])


def _are_sets(thing, ground):
    return isinstance(thing, tuple) and all([is_set_within(members, ground) for members in thing])


def _check_number(many):
    if not is_integer(many) or not 1 <= many <= MAX_PACKING:
        raise BadNumber(f"not an integer from 1 to {MAX_PACKING}")


def _check_without_loops(matroid):
    check_matroid(matroid)
    if matroid.loops:
        raise Loop(matroid.loops[0])
